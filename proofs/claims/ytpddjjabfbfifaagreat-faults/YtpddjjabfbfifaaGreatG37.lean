import Derived.BigQuiet
import Derived.Test.YtpddjjabfbfifaaGreatG36
namespace Go.Proofs.YtpddjjabfbfifaaGreat
open Go.RowKit
set_option maxHeartbeats 40000000
def Lg:cO:=⟨0,0,0,⟨#[]⟩,0,0⟩
def bG(P:List cO)(i:Nat):cO:=P.getD i Lg
theorem CI(P:List cO)(i:Nat)(h:i<P.length):P[i]?=some (bG P i):=by
 unfold bG;rw[List.getD_eq_getElem?_getD,List.getElem?_eq_getElem h];rfl
def vl(P:List cO)(i:Nat):Bool:=((bG P i).ref == -1)
def fN(P:List cO):Int:=match (List.range P.length).find? (vl P) with
 | some i=>i
 | none=>-1
theorem EK{P:List cO}{k:Nat}(hk:k<P.length)(h:vl P k=true)(ha:∀j,j<k->vl P j=false):fN P=k:=by
 have e:(List.range P.length).find? (vl P)=some k:=by
  rw[List.find?_range_eq_some];exact⟨h,List.mem_range.2 hk,fun j hj=>by rw[ha j hj];rfl⟩
 unfold fN;rw[e]
theorem Gf{P:List cO}(ha:∀j,j<P.length->vl P j=false):fN P=-1:=by
 have e:(List.range P.length).find? (vl P)=none:=by
  rw[List.find?_eq_none];intro j hj;rw[ha j (List.mem_range.1 hj)];simp
 unfold fN;rw[e]
theorem BZ(P:List cO):(fN P=-1/\∀j,j<P.length->(bG P j).ref≠-1)∨∃k,k<P.length/\fN P=(k:Int):=by
 unfold fN
 cases h:(List.range P.length).find? (vl P) with
 | none =>
  refine Or.inl ⟨rfl,fun j hj e=>?_⟩;rw[List.find?_eq_none]at h;exact h j (List.mem_range.2 hj) (by unfold vl;rw[e];rfl)
 | some i=>exact Or.inr ⟨i,List.mem_range.1 (List.mem_of_find?_eq_some h),rfl⟩
theorem cK.step{w:World}{ao:Option Addr}{P:List cO}(h:cK w ao 6 jS P)(k:Nat)(hk:k<P.length):∃g,ao=some ⟨g,0,none⟩/\g<w.heap.size/\w.cell? ⟨g,k*6,none⟩=some (.int .i64 (bG P k).ref)/\w.cell? ⟨g,k*6+1,none⟩=some (.int .i64 ((bG P k).back:Nat))/\w.cell? ⟨g,k*6+2,none⟩=some (.int .i64 ((bG P k).need:Nat)) /\
  w.cell? ⟨g,k*6+3,none⟩=some (.string (bG P k).file)/\w.cell? ⟨g,k*6+4,none⟩=some (.int .i64 (bG P k).line)/\w.cell? ⟨g,k*6+5,none⟩=some (.int .i64 (bG P k).col):=by
 obtain⟨g,e,hg,c⟩:=h k _ (CI P k hk);exact⟨g,e,hg,c 0 _ rfl,c 1 _ rfl,c 2 _ rfl,c 3 _ rfl,c 4 _ rfl,c 5 _ rfl⟩
set_option maxRecDepth 100000 in
theorem E3(P:List cO)(ao:Option Addr)(cap:Nat)(y:Int)(pf:ByteArray)(pl pc:Int)(w:World)(hS:cK w ao 6 jS P)(hl:P.length<=100000000) :
  Calls Tryz.prog 130 #[.agg #[.slice ao P.length cap,.int .i64 y,.string pf,.int .i64 pl,.int .i64 pc]] w fun e w'=>e=.returned (.int .i64 (fN P))/\ab [] w w':=by
 obtain⟨W,HW⟩:∃W,Hid (w.alloc (.cells #[.slice ao P.length cap,.int .i64 y,.string pf,.int .i64 pl,.int .i64 pc] 122)=W):=⟨_,rfl⟩
 have BW:W.heap[w.heap.size]?=some (.cells #[.slice ao P.length cap,.int .i64 y,.string pf,.int .i64 pl,.int .i64 pc] 122 (0,0)):=by rw[<-HW.out];exact heap_alloc_new _ _
 have HKW:Hid (ab [] w W):=by show ab [] w W;rw[<-HW.out];exact(ab.refl [] _).alloc _
 have HS:=(show Hid _ from hS.still HKW.out);have p0:W.cell? ⟨w.heap.size,0,none⟩=some (.slice ao P.length cap):=by rw[aa BW];rfl
 have hz:=ae BW;clear hS;go_enter Tryz.func130,Tryz.ntmps130
 go_upto_region 1 with fail
 rw[HW.out];go_wp2
 go_loopg [3] P.length (fun g i wr=>∃k:Nat,k<=P.length/\g=P.length-k/\i=.int .i64 k/\Hid (∀j,j<k->vl P j=false)/\wr=W)
 case atStart=>exact⟨0,by omega,rfl,rfl,(fun j hj=>by omega),rfl⟩
 case round =>
  obtain⟨k,hk,hg,rfl,HN,rfl⟩:=hrel
  by_cases hlt:k<P.length
  ·have hki:(k:Int)<(P.length:Int):=by omega
   obtain⟨g,rfl,hgw,q0,-⟩:=cK.step HS.out k hlt;have HP:Hid (vl P k=((bG P k).ref == -1)):=rfl;generalize (bG P k).ref=r at *
   cases hr:(r == -1)
   ·have HM:=(show Hid _ from dD HN.out (by rw[HP.out,hr]))
    go_wp2
    go_roundg (P.length-(k+1))
    case measure=>omega
    case rel=>exact⟨k+1,by omega,rfl,by go_num,HM,rfl⟩
   ·have HM:Hid (fN P=k):=EK hlt (by rw[HP.out,hr]) HN.out
    go_wp2;go_ret;exact⟨am HM.out.symm,HKW.out⟩
  ·have HM:Hid (fN P=-1):=Gf (fun j hj=>HN.out j (by omega))
   have hki:¬(k:Int)<(P.length:Int):=by omega
   go_wp2;go_ret;exact⟨am HM.out.symm,HKW.out⟩
def ov(rec:Nat->Int):Nat->Nat->Int
 | 0,b=>b
 | k+1,b=>if b=0 then -1 else if rec (b-1)<0 then -1 else ov rec k (rec (b-1)).toNat
def wO(P:List cO):Nat->Nat->Int
 | 0,_=>0
 | f+1,i=>ov (wO P f) (bG P i).need i
theorem IJ{rec:Nat->Int}(hr:∀i,rec i<=(i:Int))(k:Nat):∀b,ov rec k b<=(b:Int):=by
 induction k with
 | zero=>intro b;exact Int.le_refl _
 | succ k ih =>
  intro b;rw[ov]
  split
  ·omega
  ·split
   ·omega
   ·have h1:=ih (rec (b-1)).toNat
    have h2:=hr (b-1);omega
theorem xi(P:List cO)(f:Nat):∀i,wO P f i<=(i:Int):=by
 induction f with
 | zero=>intro i;show(0:Int)<=i;omega
 | succ f ih=>intro i;rw[wO];exact IJ ih _ _
theorem tQ{r1 r2:Nat->Int}(hr:∀i,r1 i<=(i:Int))(k:Nat):∀b,(∀i,i<b->r1 i=r2 i)->ov r1 k b=ov r2 k b:=by
 induction k with
 | zero=>intro b _;rfl
 | succ k ih =>
  intro b h;rw[ov,ov]
  by_cases hb:b=0
  ·rw[if_pos hb,if_pos hb]
  ·rw[if_neg hb,if_neg hb,<-h (b-1) (by omega)]
   split
   ·rfl
   ·next h2 =>
    have:=hr (b-1);exact ih _ (fun i hi=>h i (by omega))
theorem Ek(P:List cO):∀f g i,i<f->i<g->wO P f i=wO P g i:=by
 intro f
 induction f with
 | zero=>intro g i h;omega
 | succ f ih =>
  intro g i hf hg
  cases g with
  | zero=>omega
  | succ g =>
   rw[wO,wO];exact tQ (xi P f) _ _ (fun j hj=>ih g j (by omega) (by omega))
def dE(P:List cO)(i:Nat):Int:=wO P (i+1) i
theorem sY(P:List cO)(i:Nat):dE P i=ov (dE P) (bG P i).need i:=by
 unfold dE;rw[wO];exact tQ (xi P i) _ _ (fun j hj=>Ek P i (j+1) j hj (by omega))
theorem sQ(P:List cO)(i:Nat):dE P i<=(i:Int):=xi P _ i
def Jb(P:List cO):Prop:=∀i,(bG P i).need<=100000
set_option maxRecDepth 100000 in
theorem qN(P:List cO)(ao:Option Addr)(cap:Nat)(y:Int)(pf:ByteArray)(pl pc:Int)(hl:P.length<=100000000)(hN:Jb P)(f:Nat):∀(i:Nat) (w:World),i<f->i<P.length->cK w ao 6 jS P ->
  Calls Tryz.prog 132 #[.agg #[.slice ao P.length cap,.int .i64 y,.string pf,.int .i64 pl,.int .i64 pc],.int .i64 i] w fun e w'=>e=.returned (.int .i64 (dE P i))/\ab [] w w':=by
 induction f with
 | zero=>intro i w h;omega
 | succ f ih =>
  intro i w hif hi hS;have HIH:=(show Hid _ from ih);clear ih;obtain⟨W,HW⟩:∃W,Hid (w.alloc (.cells #[.slice ao P.length cap,.int .i64 y,.string pf,.int .i64 pl,.int .i64 pc] 122)=W):=⟨_,rfl⟩
  have BW:W.heap[w.heap.size]?=some (.cells #[.slice ao P.length cap,.int .i64 y,.string pf,.int .i64 pl,.int .i64 pc] 122 (0,0)):=by rw[<-HW.out];exact heap_alloc_new _ _
  have HKW:Hid (ab [] w W):=by show ab [] w W;rw[<-HW.out];exact(ab.refl [] _).alloc _
  have HS:=(show Hid _ from hS.still HKW.out);have p0:W.cell? ⟨w.heap.size,0,none⟩=some (.slice ao P.length cap):=by rw[aa BW];rfl
  have hz:=ae BW;have hii:(i:Int)<(P.length:Int):=by omega
  obtain⟨g,rfl,hgw,-,-,q2,-⟩:=cK.step HS.out i hi;have HB:=(show Hid _ from BW);have HBE:=(show Hid _ from sY P i);have hnd:=hN i;generalize (bG P i).need=n at *;generalize dE P i=R at *;clear hS BW;go_enter Tryz.func132,Tryz.ntmps132
  go_upto_region 1 with fail
  rw[HW.out];go_wp2;clear q2 hgw
  go_loopg [6,7] n (fun m bv kv wr=>∃(k b:Nat),k<=n/\m=n-k/\bv=.int .i64 b/\kv=.int .i64 k/\b<=i/\Hid (R=ov (dE P) (n-k) b)/\Hid (ab [] W wr))
  case atStart=>exact⟨0,i,by omega,rfl,rfl,rfl,by omega,HBE,ab.refl _ _⟩
  case round =>
   obtain⟨k,b,hk,hm,rfl,rfl,hb,HE,HK⟩:=hrel
   by_cases hlt:k<n
   ·have hki:(k:Int)<(n:Int):=by omega
    obtain⟨d,hd⟩:∃d,n-k=d+1:=⟨n-k-1,by omega⟩
    have hd2:n-(k+1)=d:=by omega
    rw[hd,ov]at HE;have HKr:=(show Hid _ from HKW.out.trans HK.out)
    cases b with
    | zero =>
     rw[if_pos rfl]at HE;go_wp2;go_ret;exact⟨am HE.out.symm,HKr.out⟩
    | succ q =>
     rw[if_neg (by omega),Nat.add_sub_cancel]at HE;have BR:=HK.out.get HB.out (by simp);have r0:wr.cell? ⟨w.heap.size,0,none⟩=some (.slice (some ⟨g,0,none⟩) P.length cap):=by rw[aa BR];rfl
     have r1:wr.cell? ⟨w.heap.size,1,none⟩=some (.int .i64 y):=by rw[aa BR];rfl
     have r2:wr.cell? ⟨w.heap.size,2,none⟩=some (.string pf):=by rw[aa BR];rfl
     have r3:wr.cell? ⟨w.heap.size,3,none⟩=some (.int .i64 pl):=by rw[aa BR];rfl
     have r4:wr.cell? ⟨w.heap.size,4,none⟩=some (.int .i64 pc):=by rw[aa BR];rfl
     have hzr:=ae BR;have HC:=(show Hid _ from HIH.out q wr (by omega) (by omega) (cK.still HS.out HK.out));have hle:=sQ P q;have hq0:((q:Int)+1==0)=false:=by simp;omega
     generalize dE P q=r at *
     by_cases hr:r<0
     ·rw[if_pos hr]at HE
      go_wp2_with (go_at_call 132;refine Calls.mono HC.out ?_;rintro e w1 ⟨rfl,k1⟩;have HK1:=(show Hid _ from HKr.out.trans k1);clear k1);go_ret;exact⟨am HE.out.symm,HK1.out⟩
     ·rw[if_neg hr]at HE
      obtain⟨rn,rfl⟩:∃rn:Nat,r=rn:=⟨r.toNat,by omega⟩
      rw[Int.toNat_natCast,<-hd2]at HE;go_wp2_with (go_at_call 132;refine Calls.mono HC.out ?_;rintro e w1 ⟨rfl,k1⟩;have HK1:=(show Hid _ from HK.out.trans k1);clear k1)
      go_roundg (n-(k+1))
      case measure=>omega
      case rel=>exact⟨k+1,rn,by omega,rfl,rfl,by go_num,by omega,HE,HK1⟩
   ·have e:k=n:=by omega
    subst e;rw[Nat.sub_self,ov]at HE;have HKr:=(show Hid _ from HKW.out.trans HK.out);go_wp2;go_ret;exact⟨am HE.out.symm,HKr.out⟩
def GI(A B:List ByteArray)(i:Nat):Bool:=((A.getD i ⟨#[]⟩).toList==(B.getD i ⟨#[]⟩).toList)
def lZ(A B:List ByteArray):Bool:=(A.length==B.length)&&(List.range A.length).all (GI A B)
theorem kO(A:List ByteArray)(k:Nat)(h:k<A.length):A[k]?=some (A.getD k ⟨#[]⟩):=by
 rw[List.getD_eq_getElem?_getD,List.getElem?_eq_getElem h];rfl
set_option maxRecDepth 100000 in
theorem zM(A B:List ByteArray)(ao bo:Option Addr)(ca cb:Nat)(w:World)(hA:ii w ao A)(hB:ii w bo B)(hl:A.length<=1000000000) :
  Calls Tryz.prog 133 #[.slice ao A.length ca,.slice bo B.length cb] w fun e w'=>e=.returned (.bool (lZ A B))/\ab [] w w':=by
 have HA:=(show Hid _ from hA);have HB:=(show Hid _ from hB);clear hA hB
 by_cases hle:A.length=B.length
 ·have HR:Hid (lZ A B=(List.range A.length).all (GI A B)):=by show _=_;unfold lZ;rw[hle];simp
  obtain⟨nA,HnA⟩:∃nA,Hid (A.length=nA):=⟨_,rfl⟩
  have HnB:Hid (B.length=nA):=by show _=_;rw[<-hle];exact HnA.out
  rw[HnA.out,HnB.out];rw[HnA.out]at hl HR;clear hle;go_enter Tryz.func133,Tryz.ntmps133;go_wp2
  go_loopg [5] nA (fun g i wr=>∃k:Nat,k<=nA/\g=nA-k/\i=.int .i64 k/\Hid (∀j,j<k->GI A B j=true)/\Hid (ab [] w wr))
  case atStart=>exact⟨0,by omega,rfl,rfl,(fun j hj=>by omega),ab.refl _ _⟩
  case round =>
   obtain⟨k,hk,hg,rfl,HN,HK⟩:=hrel
   by_cases hlt:k<nA
   ·have hki:(k:Int)<(nA:Int):=by omega
    obtain⟨ga,rfl,hga,qa⟩:=(ii.still HA.out HK.out) k _ (kO A k (by rw[HnA.out];exact hlt));obtain⟨gb,rfl,hgb,qb⟩:=(ii.still HB.out HK.out) k _ (kO B k (by rw[HnB.out];exact hlt));have HP:Hid (GI A B k=((A.getD k ⟨#[]⟩).toList==(B.getD k ⟨#[]⟩).toList)):=rfl;generalize A.getD k ⟨#[]⟩=x at *;generalize B.getD k ⟨#[]⟩=z at *;have HKd:=(show Hid _ from HK.out.drew)
    cases hr:(x.toList==z.toList)
    ·have HM:Hid (lZ A B=false):=by
      show _=_
      rw[HR.out,List.all_eq_false];exact⟨k,List.mem_range.2 hlt,by rw[HP.out,hr];simp⟩
     go_upto_region 6 with fail
     go_region
     all_goals
      go_wp2;go_ret;exact⟨aB HM.out.symm,HKd.out⟩
    ·have HM:Hid (∀j,j<k+1->GI A B j=true):=fun j hj=>by
      by_cases e:j=k
      ·rw[e,HP.out,hr]
      ·exact HN.out j (by omega)
     go_upto_region 6 with fail
     go_region
     all_goals
      go_wp2
      go_roundg (nA-(k+1))
      case measure=>omega
      case rel=>exact⟨k+1,by omega,rfl,by go_num,HM,HKd⟩
   ·have HM:Hid (lZ A B=true):=by
     show _=_
     rw[HR.out,List.all_eq_true];exact fun j hj=>HN.out j (by have:=List.mem_range.1 hj;omega)
    have hki:¬(k:Int)<(nA:Int):=by omega
    go_wp2;go_ret;exact⟨aB HM.out.symm,HK.out⟩
 ·have HM:Hid (lZ A B=false):=by show _=_;unfold lZ;simp[hle]
  have hne:((A.length:Int)==(B.length:Int))=false:=beq_false_of_ne (by omega);go_enter Tryz.func133,Tryz.ntmps133;go_wp2;go_ret;exact⟨aB HM.out.symm,ab.refl _ _⟩
def ui(rec:Nat->Int):Nat->Nat->List Nat->List Nat
 | 0,_,acc=>acc
 | m+1,b,acc=>ui rec m (rec (b-1)).toNat ((b-1) :: acc)
def lr(P:List cO)(i:Nat):List Nat:=ui (dE P) (bG P i).need i []
theorem GF(rec:Nat->Int)(m:Nat):∀b acc,(ui rec m b acc).length=m+acc.length:=by
 induction m with
 | zero=>intro b acc;simp[ui]
 | succ m ih=>intro b acc;rw[ui,ih];simp;omega
theorem DU(P:List cO)(i:Nat):(lr P i).length=(bG P i).need:=by unfold lr;rw[GF];simp
theorem JB{rec:Nat->Int}(hr:∀i,rec i<=(i:Int))(m:Nat):∀b acc i,b<=i->0<=ov rec m b->(∀q∈acc,q<i)->∀q∈ui rec m b acc,q<i:=by
 induction m with
 | zero=>intro b acc i _ _ h;exact h
 | succ m ih =>
  intro b acc i hb h0 h q hq;rw[ov]at h0;rw[ui]at hq
  by_cases hz:b=0
  ·rw[if_pos hz]at h0;omega
  ·rw[if_neg hz]at h0
   by_cases h2:rec (b-1)<0
   ·rw[if_pos h2]at h0;omega
   ·rw[if_neg h2]at h0
    have:=hr (b-1);refine ih _ _ i (by omega) h0 (fun q hq=>?_) q hq
    rcases List.mem_cons.1 hq with e | e
    ·omega
    ·exact h q e
theorem FP(P:List cO)(i:Nat)(h:0<=dE P i):∀q∈lr P i,q<i:=by
 rw[sY]at h;exact JB (sQ P) _ _ _ i (Nat.le_refl _) h (fun q hq=>by cases hq)
theorem Jd(m x:Nat)(L:List Nat):(iZ (List.replicate (m+1) 0++L)).set m (.int .i64 x)=iZ (List.replicate m 0++x :: L):=by
 unfold iZ
 induction m with
 | zero=>simp
 | succ m ih=>rw[List.replicate_succ,List.cons_append,List.map_cons,List.set_cons_succ,ih];simp[List.replicate_succ]
theorem Ea(n:Nat):madeCells (Value.int .i64 0).cells (n*1)=(iZ (List.replicate n 0)).toArray:=by
 rw[Nat.mul_one]
 apply Array.ext
 ·rw[size_madeCells];simp[iZ]
 ·intro i h1 h2
  have e:(Value.int .i64 0).cells=#[.int .i64 0]:=rfl;simp[madeCells,e,Nat.mod_one,iZ]
def mb(w:World)(g:Nat)(L:List Nat):Prop:=w.heap[g]?=some (.cells (iZ L).toArray 3 (0,0))
theorem mb.src{w:World}{g:Nat}{L:List Nat}(h:mb w g L):pE w (some ⟨g,0,none⟩) L:=by
 intro k x hk;refine⟨g,rfl,ae h,?_⟩;rw[aa h];simp[iZ,hk]
set_option maxRecDepth 100000 in
theorem Ff(P:List cO)(ao:Option Addr)(cap:Nat)(y:Int)(pf:ByteArray)(pl pc:Int)(i:Nat)(w:World)(hl:P.length<=100000000)(hN:Jb P)(hi:i<P.length)(hS:cK w ao 6 jS P)(h0:0<=dE P i) :
  Calls Tryz.prog 102 #[.agg #[.slice ao P.length cap,.int .i64 y,.string pf,.int .i64 pl,.int .i64 pc],.int .i64 i] w fun e w'=>∃g,e=.returned (.slice (some ⟨g,0,none⟩) (bG P i).need (bG P i).need)/\mb w' g (lr P i)/\ab [] w w':=by
 obtain⟨i0,hi0,hy0,hy1,hy2⟩:=info_parts xb;have hnd:=hN i;have m2:=fun w=>dn (P:=Tryz.prog) w 26 3 i0 _ Tryz.underlying26 hi0 hy0 (bG P i).need 1 hy1 (by rw[hy2];omega) (by omega)
 obtain⟨mc,Hmc⟩:∃mc,Hid (madeCells (Value.int .i64 0).cells ((bG P i).need*1)=mc):=⟨_,rfl⟩
 have HMC:Hid (mc=(iZ (List.replicate (bG P i).need 0)).toArray):=by show _=_;rw[<-Hmc.out,Ea]
 rw[Hmc.out]at m2;obtain⟨W,HW⟩:∃W,Hid (w.alloc (.cells #[.slice ao P.length cap,.int .i64 y,.string pf,.int .i64 pl,.int .i64 pc] 122)=W):=⟨_,rfl⟩
 have BW:W.heap[w.heap.size]?=some (.cells #[.slice ao P.length cap,.int .i64 y,.string pf,.int .i64 pl,.int .i64 pc] 122 (0,0)):=by rw[<-HW.out];exact heap_alloc_new _ _
 have HKW:Hid (ab [] w W):=by show ab [] w W;rw[<-HW.out];exact(ab.refl [] _).alloc _
 have HS:=(show Hid _ from hS.still HKW.out);have p0:W.cell? ⟨w.heap.size,0,none⟩=some (.slice ao P.length cap):=by rw[aa BW];rfl
 have hz:=ae BW;have hii:(i:Int)<(P.length:Int):=by omega
 obtain⟨g,rfl,hgw,-,-,q2,-⟩:=cK.step HS.out i hi;have HB:=(show Hid _ from BW);rw[sY]at h0;have H0:=(show Hid _ from h0);have HRS:Hid (ui (dE P) (bG P i).need i []=lr P i):=rfl;have HML:=(show Hid _ from m2 W);generalize (bG P i).need=n at *;generalize lr P i=RS at *;have I0:Hid (mb (W.alloc (.cells mc 3)) W.heap.size (List.replicate n 0++[])):=by show _=_;rw[List.append_nil,HMC.out];exact heap_alloc_new _ _
 clear hS BW h0;go_enter Tryz.func102,Tryz.ntmps102
 go_upto_region 1 with fail
 rw[HW.out];go_wp2;clear q2 hgw p0 m2
 go_loopg [7,8] n (fun ms bv kv wr=>∃(m b:Nat) (L:List Nat),m<=n/\ms=m/\bv=.int .i64 b/\kv=.int .i64 ((m:Int)-1)/\b<=i/\Hid (0<=ov (dE P) m b)/\Hid (ui (dE P) m b L=RS)/\Hid (mb wr W.heap.size (List.replicate m 0++L))/\Hid (ab [] W wr))
 case atStart=>exact⟨n,i,[],by omega,rfl,rfl,by go_num,by omega,H0,HRS,I0,(ab.refl _ _).alloc _⟩
 case round =>
  obtain⟨m,b,L,hm,hms,rfl,rfl,hb,HB0,HR,HI,HK⟩:=hrel;have HKr:=(show Hid _ from HKW.out.trans HK.out)
  cases m with
  | zero =>
   have HE:Hid (mb wr W.heap.size RS):=by show mb wr W.heap.size RS;have:=HI.out;rw[<-HR.out];simpa [ui] using this
   go_wp2;go_ret;exact⟨W.heap.size,rfl,HE.out,HKr.out⟩
  | succ q =>
   rw[ov]at HB0
   have hb0:b≠0:=fun e=>by
    have:=HB0.out;rw[if_pos e]at this;omega
   obtain⟨c,rfl⟩:∃c,b=c+1:=⟨b-1,by omega⟩
   rw[if_neg hb0,Nat.add_sub_cancel]at HB0
   have hc0:¬dE P c<0:=fun e=>by
    have:=HB0.out;rw[if_pos e]at this;omega
   rw[if_neg hc0]at HB0;rw[ui,Nat.add_sub_cancel]at HR;have BR:=HK.out.get HB.out (by simp);have r0:wr.cell? ⟨w.heap.size,0,none⟩=some (.slice (some ⟨g,0,none⟩) P.length cap):=by rw[aa BR];rfl
   have r1:wr.cell? ⟨w.heap.size,1,none⟩=some (.int .i64 y):=by rw[aa BR];rfl
   have r2:wr.cell? ⟨w.heap.size,2,none⟩=some (.string pf):=by rw[aa BR];rfl
   have r3:wr.cell? ⟨w.heap.size,3,none⟩=some (.int .i64 pl):=by rw[aa BR];rfl
   have r4:wr.cell? ⟨w.heap.size,4,none⟩=some (.int .i64 pc):=by rw[aa BR];rfl
   have hzr:=ae BR;have hgz:=ae HI.out;have u0:=ak HI.out q
   have u1:wr.cell? ⟨W.heap.size,q,none⟩=some (.int .i64 0):=by
    rw[aa HI.out];simp[iZ,List.replicate_succ']
   have hqn:(q:Int)<(n:Int):=by omega
   have hq1:((q:Int)+1-1)=(q:Int):=by omega
   have HC:Hid (∀wx,ab [] W wx->Calls Tryz.prog 132 #[.agg #[.slice (some ⟨g,0,none⟩) P.length cap,.int .i64 y,.string pf,.int .i64 pl,.int .i64 pc],.int .i64 c] wx fun e w'=>e=.returned (.int .i64 (dE P c))/\ab [] wx w'):=fun wx kx=>qN P _ cap y pf pl pc hl hN (c+1) c wx (by omega) (by omega) (cK.still HS.out kx)
   have hle:=sQ P c;obtain⟨rn,hrn⟩:∃rn:Nat,dE P c=rn:=⟨(dE P c).toNat,by omega⟩
   rw[hrn]at HC HR HB0 hle;rw[Int.toNat_natCast]at HR HB0;obtain⟨X,HX⟩:∃X,Hid (wr.setCell ⟨W.heap.size,q,none⟩ (.int .i64 (c:Int))=X):=⟨_,rfl⟩
   have HKX:Hid (ab [] W X):=by show ab [] W X;rw[<-HX.out];exact HK.out.setCell (Or.inr (by simp)) _
   have HIX:Hid (mb X W.heap.size (List.replicate q 0++c :: L)):=by
    show _=_
    rw[<-HX.out,ah HI.out]
    congr 2
    have:=Jd q c L;rw[<-this];simp
   have BX:=HKX.out.get HB.out (by simp);have x0:X.cell? ⟨w.heap.size,0,none⟩=some (.slice (some ⟨g,0,none⟩) P.length cap):=by rw[aa BX];rfl
   have x1:X.cell? ⟨w.heap.size,1,none⟩=some (.int .i64 y):=by rw[aa BX];rfl
   have x2:X.cell? ⟨w.heap.size,2,none⟩=some (.string pf):=by rw[aa BX];rfl
   have x3:X.cell? ⟨w.heap.size,3,none⟩=some (.int .i64 pl):=by rw[aa BX];rfl
   have x4:X.cell? ⟨w.heap.size,4,none⟩=some (.int .i64 pc):=by rw[aa BX];rfl
   have xz:=ae BX;have HC2:=(show Hid _ from HC.out X HKX.out);clear hrn hc0 hb0
   go_upto_region 8 with fail
   rw[HX.out];go_wp2_with (go_at_call 132;refine Calls.mono HC2.out ?_;rintro e w1 ⟨rfl,k1⟩;have HK1:=(show Hid _ from HKX.out.trans k1);have HI1:=(show Hid (mb w1 W.heap.size (List.replicate q 0++c :: L)) from k1.get HIX.out (by simp));clear k1)
   go_roundg q
   case measure=>omega
   case rel=>exact⟨q,rn,c :: L,by omega,rfl,rfl,by go_num,by omega,HB0,HR,HI1,HK1⟩
def jq(T:List Tk)(S:List Sm)(a:Nat)(e:List ByteArray):List ByteArray:=e.filter (fun x=>jC T S x a)
theorem Fl(T:List Tk)(S:List Sm)(a:Nat)(e:List ByteArray)(k:Nat)(h:k<e.length):jq T S a (e.take (k+1))=jq T S a (e.take k)++(if jC T S e[k] a=true then [e[k]] else []):=by
 unfold jq;rw[List.take_succ_eq_append_getElem h,List.filter_append]
 congr 1
 cases hv:jC T S e[k] a
 ·rw[List.filter_cons_of_neg (by rw[hv];simp)];rfl
 ·rw[List.filter_cons_of_pos (p:=fun x=>jC T S x a) hv];rfl
set_option maxRecDepth 100000 in
theorem oK(b n:Nat)(E:List ByteArray)(aoE:Option Addr)(cE:Nat)(T:List Tk)(aoT:Option Addr)(cT:Nat)(S:List Sm)(aoS:Option Addr)(cS:Nat)(w:World)(hD:fa w b T aoT cT S aoS cS)(ok:mG T S n)(hE:ii w aoE E)(hl:E.length<=900000000) :
  Calls Tryz.prog 241 #[.pointer (some ⟨b,0,none⟩),.int .i64 n,.slice aoE E.length cE] w fun e w'=>∃h',e=.returned (.slice h'.ao (jq T S n E).length h'.cap)/\iz w w' h' (aD (jq T S n E)):=by
 have HD:=(show Hid _ from hD);have HOK:=(show Hid _ from ok.ok);have HEE:=(show Hid _ from hE);have HN0:Hid (iz w w ⟨none,0⟩ (aD [])):=⟨World.ownsRow_nil _ _ _ _,(by intro k hk;cases hk),ab.refl _ _⟩;obtain⟨iS,hiS,hzS0,hzS1,hzS2⟩:=info_parts jI;clear hD ok hE;go_enter Tryz.func241,Tryz.ntmps241;go_wp2
 go_loopg [7,8] E.length (fun g o i wr=>∃(k:Nat) (h':Hd) (O:List ByteArray),k<=E.length/\g=E.length-k/\o=.slice h'.ao O.length h'.cap/\i=.int .i64 k/\O.length<=k/\Hid (O=jq T S n (E.take k))/\Hid (iz w wr h' (aD O)))
 case atStart=>exact⟨0,⟨none,0⟩,[],by omega,rfl,rfl,rfl,by simp,by show _=_;simp[jq],HN0⟩
 case round =>
  obtain⟨k,h',O,hk,hg,rfl,rfl,hO,HE,HW⟩:=hrel
  by_cases hlt:k<E.length
  ·have hki:(k:Int)<(E.length:Int):=by omega
   obtain⟨gE,rfl,hgE,cE0⟩:=(ii.still HEE.out HW.out.kept) k E[k] (List.getElem?_eq_getElem hlt);have HNX:=(show Hid _ from Fl T S n E k hlt);rw[<-HE.out]at HNX;have HV:=(show Hid _ from xK b n E[k] T aoT cT S aoS cS wr (fa.still HD.out HW.out.kept) HOK.out.m HOK.out.s HOK.out.t HOK.out.v);have HCE:Hid (∀w',ab [] wr w'->w'.cell? ⟨gE,k,none⟩=some (.string E[k])/\gE<w'.heap.size):=fun w' kw=>⟨by rw[World.cell?_of_block (kw.block gE hgE (by simp))];exact cE0,Nat.lt_of_lt_of_le hgE kw.size⟩
   generalize E[k]=x at *;obtain⟨vb,Hvb⟩:∃vb,Hid (jC T S x n=vb):=⟨_,rfl⟩
   rw[Hvb.out]at HV HNX
   cases vb
   ·have HM:Hid (O=jq T S n (E.take (k+1))):=by have:=HNX.out;rw[if_neg (by simp),List.append_nil]at this;exact this.symm
    go_wp2_with (go_at_call 173;refine Calls.mono HV.out ?_;rintro e w1 ⟨rfl,k1⟩;have HW1:=(show Hid _ from HW.out.still k1);clear k1)
    go_roundg (E.length-(k+1))
    case measure=>omega
    case rel=>exact⟨k+1,h',O,by omega,rfl,rfl,by go_num,by omega,HM,HW1⟩
   ·have HM:Hid (O++[x]=jq T S n (E.take (k+1))):=by have:=HNX.out;rw[if_pos rfl]at this;exact this.symm
    go_upto_region 7 with (go_at_call 173;refine Calls.mono HV.out ?_;rintro e w1 ⟨rfl,k1⟩)
    have HW1:=(show Hid _ from HW.out.still k1);obtain⟨d0,d1⟩:=HCE.out w1 k1;have hOw:=HW1.out.own;have hOb:(aD O).n<=900000000:=by show O.length<=_;omega
    clear k1 cE0 hgE;go_wp2_with (at_builtin;refine bX _ rfl (.tmp 24) (.tmp 29) 61 rfl iS (.string ⟨#[]⟩) 16 h' (aD O) [.string x] Tryz.underlying61 hiS hzS0 hzS1 hzS2 rfl Nat.one_pos rfl hOw hOb (by omega) rfl rfl (by simp[Value.oneCell']) ?_;intro h5 w5 hw5 hg5;rw[dS]at hw5;have HM2:=(show Hid _ from HW1.out.grew hg5 hw5);clear hw5 hg5)
    go_roundg (E.length-(k+1))
    case measure=>omega
    case rel=>exact⟨k+1,h5,O++[x],by omega,rfl,by simp[aD],by go_num,by simp;omega,HM,HM2⟩
  ·have e:k=E.length:=by omega
   subst e;have HM:Hid (jq T S n E=O):=by show _=_;rw[HE.out,List.take_length]
   go_wp2;go_ret;exact⟨h',by rw[HM.out];rfl,by rw[HM.out];exact HW.out⟩
def BE(T:List Tk)(S:List Sm)(a:Nat)(Y:List ByteArray)(x:ByteArray):Bool:=Y.all (fun y=>ir T S x y a)
def qI(T:List Tk)(S:List Sm)(a:Nat)(E F:List ByteArray):Bool:=(jq T S a E).all (BE T S a (jq T S a F))
theorem CX{L:List ByteArray}{p:ByteArray->Bool}(k:Nat)(h:k<L.length)(hp:p L[k]=false):L.all p=false:=by
 rw[List.all_eq_false];exact⟨L[k],List.getElem_mem h,by rw[hp];simp⟩
theorem yW{L:List ByteArray}{p:ByteArray->Bool}{m:Nat}(hm:m=L.length)(h:∀k (hk:k<L.length),k<m->p L[k]=true):L.all p=true:=by
 rw[List.all_eq_true];intro x hx;obtain⟨k,hk,e⟩:=List.getElem_of_mem hx;rw[<-e];exact h k hk (by omega)
theorem wC(T:List Tk)(S:List Sm)(a:Nat)(E:List ByteArray):(jq T S a E).length<=E.length:=List.length_filter_le _ _
set_option maxRecDepth 100000 in
theorem DY(b n:Nat)(E F:List ByteArray)(aoE aoF:Option Addr)(cE cF:Nat)(T:List Tk)(aoT:Option Addr)(cT:Nat)(S:List Sm)(aoS:Option Addr)(cS:Nat)(w:World)(hD:fa w b T aoT cT S aoS cS)(ok:mG T S n)(hE:ii w aoE E)(hF:ii w aoF F)(hl:E.length<=900000000)(hl2:F.length<=900000000) :
  Calls Tryz.prog 214 #[.pointer (some ⟨b,0,none⟩),.int .i64 n,.slice aoE E.length cE,.slice aoF F.length cF] w fun e w'=>e=.returned (.bool (qI T S n E F))/\ab [] w w':=by
 have HD:=(show Hid _ from hD);have HOK:=(show Hid _ from ok);have HV1:=(show Hid _ from oK b n E aoE cE T aoT cT S aoS cS w hD ok hE hl);have HV2:Hid (∀wx,ab [] w wx->Calls Tryz.prog 241 #[.pointer (some ⟨b,0,none⟩),.int .i64 n,.slice aoF F.length cF] wx fun e w'=>∃h',e=.returned (.slice h'.ao (jq T S n F).length h'.cap)/\iz wx w' h' (aD (jq T S n F))):=fun wx kx=>oK b n F aoF cF T aoT cT S aoS cS wx (hD.still kx) ok (hF.still kx) hl2
 have HR:Hid (qI T S n E F=(jq T S n E).all (BE T S n (jq T S n F))):=rfl;have hx1:=wC T S n E;have hy1:=wC T S n F;generalize jq T S n E=X at *;generalize jq T S n F=Y at *;clear hD ok hE hF;go_enter Tryz.func214,Tryz.ntmps214
 go_upto_region 2 with (go_at_call 241;refine Calls.mono HV1.out ?_;rintro e w1 ⟨h1,rfl,x1⟩)
 have HV3:=(show Hid _ from HV2.out w1 x1.kept)
 go_upto_region 3 with (go_at_call 241;refine Calls.mono HV3.out ?_;rintro e w2 ⟨h2,rfl,x2⟩)
 have HX:=(show Hid _ from(x1.own.srcX.still x2.kept));have HY:=(show Hid _ from x2.own.srcX);have HK2:=(show Hid _ from x1.kept.trans x2.kept);clear x1 x2 HV1 HV2 HV3;obtain⟨a1,c1⟩:=h1;obtain⟨a2,c2⟩:=h2;go_wp2
 go_loopg [11] X.length (fun g i wr=>∃k:Nat,k<=X.length/\g=X.length-k/\i=.int .i64 k/\Hid (∀j (hj:j<X.length),j<k->BE T S n Y X[j]=true)/\Hid (ab [] w2 wr))
 case atStart=>exact⟨0,by omega,rfl,rfl,(fun j _ hj=>by omega),ab.refl _ _⟩
 case round =>
  obtain⟨k,hk,hg,rfl,HN,HK⟩:=hrel
  by_cases hlt:k<X.length
  ·have hki:(k:Int)<(X.length:Int):=by omega
   obtain⟨gX,eX,hgX,qX⟩:=HX.out k X[k] (List.getElem?_eq_getElem hlt);replace eX:a1=some ⟨gX,0,none⟩:=eX;subst eX;have HNO:Hid (BE T S n Y X[k]=false->qI T S n E F=false):=fun h=>by rw[HR.out];exact CX k hlt h
   have HNX:Hid (BE T S n Y X[k]=true->∀j (hj:j<X.length),j<k+1->BE T S n Y X[j]=true):=fun h j hj h2=>by
    by_cases e:j=k
    ·subst e;exact h
    ·exact HN.out j hj (by omega)
   generalize X[k]=x at *;go_wp2
   go_loopg [12] Y.length (fun g i wr=>∃m:Nat,m<=Y.length/\g=Y.length-m/\i=.int .i64 m/\Hid (∀j (hj:j<Y.length),j<m->ir T S x Y[j] n=true)/\Hid (ab [] w2 wr))
   case atStart=>exact⟨0,by omega,rfl,rfl,(fun j _ hj=>by omega),HK⟩
   case round =>
    obtain⟨m,hm,hg2,rfl,HN2,HK3⟩:=hrel
    by_cases hlt2:m<Y.length
    ·have hmi:(m:Int)<(Y.length:Int):=by omega
     obtain⟨gY,eY,hgY,qY⟩:=(ii.still HY.out HK3.out) m Y[m] (List.getElem?_eq_getElem hlt2);replace eY:a2=some ⟨gY,0,none⟩:=eY;subst eY;have qx2:wr.cell? ⟨gX,k,none⟩=some (.string x):=by rw[World.cell?_of_block (HK3.out.block gX hgX (by simp))];exact qX
     have hgx2:=Nat.lt_of_lt_of_le hgX HK3.out.size;have HAP:Hid (∀wx,ab [] wr wx->Calls Tryz.prog 94 #[.pointer (some ⟨b,0,none⟩),.string x,.string Y[m],.int .i64 n] wx fun e w'=>e=.returned (.bool (ir T S x Y[m] n))/\ab [] wx w'):=fun wx kx=>tU b n x Y[m] T aoT cT S aoS cS wx (fa.still HD.out ((HK2.out.trans HK3.out).trans kx)) HOK.out
     have HNO2:Hid (ir T S x Y[m] n=false->BE T S n Y x=false):=fun h=>CX (p:=fun y=>ir T S x y n) m hlt2 h
     have HNX2:Hid (ir T S x Y[m] n=true->∀j (hj:j<Y.length),j<m+1->ir T S x Y[j] n=true):=fun h j hj h2=>by
      by_cases e:j=m
      ·subst e;exact h
      ·exact HN2.out j hj (by omega)
     generalize Y[m]=y at *;obtain⟨ap,Hap⟩:∃ap,Hid (ir T S x y n=ap):=⟨_,rfl⟩
     rw[Hap.out]at HAP HNO2 HNX2
     go_upto_region 9 with fail
     go_region_with (go_at_call 94;refine(HAP.out _ (by exact(ab.refl [] wr).drew)).mono ?_;rintro e w3 ⟨rfl,k3⟩)
     all_goals
      have HK4:=(show Hid _ from(HK3.out.drew).trans k3)
      cases ap
      ·have HM:=(show Hid _ from HNO.out (HNO2.out rfl))
       go_wp2;go_ret;exact⟨aB HM.out.symm,HK2.out.trans HK4.out⟩
      ·have HM:=(show Hid _ from HNX2.out rfl)
       go_wp2
       go_roundg (Y.length-(m+1))
       case measure=>omega
       case rel=>exact⟨m+1,by omega,rfl,by go_num,HM,HK4⟩
    ·have e:m=Y.length:=by omega
     have HM:=(show Hid _ from HNX.out (yW e HN2.out));have hmi:¬(m:Int)<(Y.length:Int):=by omega
     go_wp2
     go_roundg (X.length-(k+1))
     case measure=>omega
     case rel=>exact⟨k+1,by omega,rfl,by go_num,HM,HK3⟩
  ·have e:k=X.length:=by omega
   have HM:Hid (qI T S n E F=true):=by show _=_;rw[HR.out];exact yW e HN.out
   have hki:¬(k:Int)<(X.length:Int):=by omega
   go_wp2;go_ret;exact⟨aB HM.out.symm,HK2.out.trans HK.out⟩
structure Sl where
 ao:Option Addr
 cap:Nat
 L:List ByteArray
def Bx(s:Sl):List Value:=[.slice s.ao s.L.length s.cap]
theorem sJ(s:Sl):(Bx s).length=1:=rfl
def j4(A:List Sl):dK:=kg 61 1 Bx A
theorem oi(L:List Sl)(x:Sl):(⟨(j4 L).e,(j4 L).size,(j4 L).n+1,(j4 L).xs++Bx x⟩:dK)=j4 (L++[x]):=jM _ _ _ _ _
structure nr(w:World)(s:Sl):Prop where
 src:∀(k:Nat) (x:ByteArray),s.L[k]?=some x->∃g o,s.ao=some ⟨g,o,none⟩/\g<w.heap.size/\w.cell? ⟨g,o+k,none⟩=some (.string x)
 nil:s.ao=none->s.L.length=0/\s.cap=0
 le:s.L.length<=s.cap
theorem nr.still{w w':World}{s:Sl}(h:nr w s)(k:ab [] w w'):nr w' s :=
 ⟨fun j x hj=>by
  obtain⟨g,o,e,hg,c0⟩:=h.src j x hj;exact⟨g,o,e,Nat.lt_of_lt_of_le hg k.size,by rw[World.cell?_of_block (k.block g hg (by simp))];exact c0⟩,h.nil,h.le⟩
def nh(w:World)(A:List Sl):Prop:=∀s∈A,nr w s
theorem nh.still{w w':World}{A:List Sl}(h:nh w A)(k:ab [] w w'):nh w' A:=fun s hs=>(h s hs).still k
theorem Ed(g o j:Nat):(⟨g,o,none⟩:Addr).add j=⟨g,o+j,none⟩:=by
 simp only[Addr.add]
 split
 ·next h=>subst h;rfl
 ·rfl
theorem nr.cells{w:World}{s:Sl}(h:nr w s):∀ad,s.ao=some ad->∀j u,(dN s.L)[j]?=some u->w.cell? (ad.add j)=some u:=by
 intro ad e j u hj;rw[dN,List.getElem?_map]at hj
 cases hx:s.L[j]? with
 | none=>rw[hx]at hj;cases hj
 | some x =>
  rw[hx]at hj
  cases hj
  obtain⟨g,o,e2,-,c⟩:=h.src j x hx;rw[e]at e2
  cases e2
  rw[Ed];exact c
theorem iz.sl{w wr:World}{h:Hd}{L:List ByteArray}(a:iz w wr h (aD L)):nr wr ⟨h.ao,h.cap,L⟩ :=
 ⟨fun k x hk=>by
  obtain⟨g,e,hg,c⟩:=a.own.srcX k x hk;exact⟨g,0,e,hg,by rw[Nat.zero_add];exact c⟩,a.none,a.le⟩
def tp(V:List ByteArray)(x:ByteArray):Nat:=V.findIdx (fun y=>(y.toList==x.toList))
def Gc(V:List ByteArray)(A:List (List ByteArray))(x:ByteArray):List ByteArray:=if tp V x<V.length then A.getD (tp V x) [] else [x]
def gM(V:List ByteArray)(A:List (List ByteArray))(e:List ByteArray):List ByteArray:=e.flatMap (Gc V A)
theorem Jj{V:List ByteArray}{x:ByteArray}{k:Nat}(hk:k<V.length)(h:(V[k].toList==x.toList)=true)(ha:∀j (hj:j<V.length),j<k->(V[j].toList==x.toList)=false):tp V x=k:=by
 unfold tp;rw[List.findIdx_eq hk];exact⟨h,fun j hj=>ha j (by omega) hj⟩
theorem GX{V:List ByteArray}{x:ByteArray}{k:Nat}(hk:k=V.length)(ha:∀j (hj:j<V.length),j<k->(V[j].toList==x.toList)=false):tp V x=V.length:=by
 unfold tp;rw[List.findIdx_eq_length];intro y hy;obtain⟨j,hj,e⟩:=List.getElem_of_mem hy;rw[<-e];exact ha j hj (by omega)
theorem Fy(V:List ByteArray)(A:List (List ByteArray))(e:List ByteArray)(k:Nat)(h:k<e.length):gM V A (e.take (k+1))=gM V A (e.take k)++Gc V A e[k]:=by
 unfold gM;rw[List.take_succ_eq_append_getElem h,List.flatMap_append];simp
def LO:Sl:=⟨none,0,[]⟩
def eU(A:List Sl)(i:Nat):Sl:=A.getD i LO
theorem CK(A:List Sl)(i:Nat)(h:i<A.length):A[i]?=some (eU A i):=by
 unfold eU;rw[List.getD_eq_getElem?_getD,List.getElem?_eq_getElem h];rfl
theorem iJ(A:List Sl)(i:Nat)(h:i<A.length):eU A i∈A:=List.mem_of_getElem? (CK A i h)
theorem cK.sl{w:World}{ao:Option Addr}{A:List Sl}(h:cK w ao 1 Bx A)(k:Nat)(hk:k<A.length):∃g,ao=some ⟨g,0,none⟩/\g<w.heap.size/\w.cell? ⟨g,k,none⟩=some (.slice (eU A k).ao (eU A k).L.length (eU A k).cap):=by
 obtain⟨g,e,hg,c⟩:=h k _ (CK A k hk);refine⟨g,e,hg,?_⟩;have:=c 0 _ rfl;simpa using this
theorem tJ(A:List Sl)(k:Nat)(h:k<A.length):(A.map (·.L)).getD k []=(eU A k).L:=by
 unfold eU;rw[List.getD_eq_getElem?_getD,List.getD_eq_getElem?_getD,List.getElem?_map,List.getElem?_eq_getElem h];rfl
set_option maxRecDepth 100000 in
theorem xV(V:List ByteArray)(aoV:Option Addr)(cV:Nat)(A:List Sl)(aoA:Option Addr)(cA:Nat)(E:List ByteArray)(aoE:Option Addr)(cE:Nat)(w:World)(hV:ii w aoV V)(hA:cK w aoA 1 Bx A)(hAS:nh w A)(hVA:V.length<=A.length)(hAl:A.length<=100000)(hE:ii w aoE E)(hEl:E.length<=10000)(hSl:∀s∈A,s.L.length<=10000) :
  Calls Tryz.prog 179 #[.agg #[.slice aoV V.length cV,.slice aoA A.length cA],.slice aoE E.length cE] w fun e w'=>∃h',e=.returned (.slice h'.ao (gM V (A.map (·.L)) E).length h'.cap)/\iz w w' h' (aD (gM V (A.map (·.L)) E)):=by
 obtain⟨W,HW⟩:∃W,Hid (w.alloc (.cells #[.slice aoV V.length cV,.slice aoA A.length cA] 271)=W):=⟨_,rfl⟩
 have BW:W.heap[w.heap.size]?=some (.cells #[.slice aoV V.length cV,.slice aoA A.length cA] 271 (0,0)):=by rw[<-HW.out];exact heap_alloc_new _ _
 have HKW:Hid (ab [] w W):=by show ab [] w W;rw[<-HW.out];exact(ab.refl [] _).alloc _
 have HB:=(show Hid _ from BW);have HV:=(show Hid _ from hV);have HA:=(show Hid _ from hA);have HAS:=(show Hid _ from hAS);have HE:=(show Hid _ from hE);have HSL:=(show Hid _ from hSl);have HN0:Hid (iz w W ⟨none,0⟩ (aD [])):=⟨World.ownsRow_nil _ _ _ _,(by intro k hk;cases hk),HKW.out⟩;obtain⟨iS,hiS,hzS0,hzS1,hzS2⟩:=info_parts jI;have HP0:Hid (([]:List ByteArray)=gM V (A.map (·.L)) (E.take 0)):=by show _=_;simp[gM]
 obtain⟨M,HM0⟩:∃M,Hid (A.map (·.L)=M):=⟨_,rfl⟩
 rw[HM0.out]at HP0 ⊢;have HMA:Hid (∀k,k<A.length->M.getD k []=(eU A k).L):=fun k hk=>by rw[<-HM0.out];exact tJ A k hk
 clear hV hA hAS hE hSl
 have HBk:Hid (∀wr,ab [] w wr->wr.heap[w.heap.size]?=W.heap[w.heap.size]?->wr.cell? ⟨w.heap.size,0,none⟩=some (.slice aoV V.length cV)/\wr.cell? ⟨w.heap.size,1,none⟩=some (.slice aoA A.length cA)/\w.heap.size<wr.heap.size):=fun wr _ e=>by
  rw[HB.out]at e;exact⟨by rw[aa e];rfl,by rw[aa e];rfl,ae e⟩
 go_enter Tryz.func179,Tryz.ntmps179
 go_upto_region 1 with fail
 rw[HW.out];go_wp2
 go_loopg [5,6] E.length (fun g o i wr=>∃(k:Nat) (h':Hd) (O:List ByteArray),k<=E.length/\g=E.length-k/\o=.slice h'.ao O.length h'.cap/\i=.int .i64 k/\O.length<=10000*k/\Hid (O=gM V M (E.take k))/\Hid (iz W wr h' (aD O)))
 case atStart=>exact⟨0,⟨none,0⟩,[],by omega,rfl,rfl,rfl,by simp,HP0,⟨World.ownsRow_nil _ _ _ _,(by intro k hk;cases hk),ab.refl _ _⟩⟩
 case round =>
  obtain⟨k,h',O,hk,hg,rfl,rfl,hO,HO,HWr⟩:=hrel
  by_cases hlt:k<E.length
  ·have hki:(k:Int)<(E.length:Int):=by omega
   obtain⟨gE,rfl,hgE,cE0⟩:=HE.out k E[k] (List.getElem?_eq_getElem hlt);have HNX:=(show Hid _ from Fy V M E k hlt);rw[<-HO.out]at HNX;have HCE:Hid (∀w',ab [] w w'->w'.cell? ⟨gE,k,none⟩=some (.string E[k])/\gE<w'.heap.size):=fun w' kw=>⟨by rw[World.cell?_of_block (kw.block gE hgE (by simp))];exact cE0,Nat.lt_of_lt_of_le hgE kw.size⟩
   generalize E[k]=x at *;have HPX:Hid (Gc V M x=if tp V x<V.length then M.getD (tp V x) [] else [x]):=rfl;go_wp2
   go_loopg [7] (V.length) (fun g i wr=>∃q:Nat,q<=V.length/\g=V.length-q/\i=.int .i64 q/\Hid (∀j (hj:j<V.length),j<q->(V[j].toList==x.toList)=false)/\Hid (iz W wr h' (aD O)))
   case atStart=>exact⟨0,by omega,rfl,rfl,(fun j _ hj=>by omega),HWr⟩
   case round =>
    obtain⟨q,hq,hg2,rfl,HNO,HW2⟩:=hrel;have HKr:=(show Hid _ from HKW.out.trans HW2.out.kept);have HBr:=(show Hid _ from HW2.out.kept.get HB.out (by simp));obtain⟨b0,b1,hbz⟩:=HBk.out wr HKr.out (by rw[HBr.out,HB.out]);obtain⟨d0,d1⟩:=HCE.out wr HKr.out
    by_cases hqV:q<V.length
    ·have hqi:(q:Int)<(V.length:Int):=by omega
     obtain⟨gV,eV,hgV,cV0⟩:=(ii.still HV.out HKr.out) q V[q] (List.getElem?_eq_getElem hqV);subst eV;have HYES:Hid ((V[q].toList==x.toList)=true->tp V x=q):=fun h=>Jj hqV h HNO.out
     have HNXT:Hid ((V[q].toList==x.toList)=false->∀j (hj:j<V.length),j<q+1->(V[j].toList==x.toList)=false):=fun h j hj h2=>by
      by_cases e:j=q
      ·subst e;exact h
      ·exact HNO.out j hj (by omega)
     generalize V[q]=y at *
     cases hy:(y.toList==x.toList)
     ·have HM:=(show Hid _ from HNXT.out hy)
      go_upto_region 6 with fail
      go_quiet (fail)
      have HW3:=(show Hid _ from HW2.out.still ((ab.refl [] wr).drewN nq));go_wp2
      go_roundg (V.length-(q+1))
      case measure=>omega
      case rel=>exact⟨q+1,by omega,rfl,by go_num,HM,HW3⟩
     ·have hix:=HYES.out hy
      have hqA:q<A.length:=by omega
      have hqAi:(q:Int)<(A.length:Int):=by omega
      obtain⟨gA,eA,hgA,cA0⟩:=cK.sl (cK.still HA.out HKr.out) q hqA;subst eA;have HSS:=(show Hid _ from(nh.still HAS.out HKr.out) (eU A q) (iJ A q hqA));have hsl:=HSL.out (eU A q) (iJ A q hqA)
      have HPQ:Hid (O++(eU A q).L=gM V M (E.take (k+1))):=by
       show _=_
       rw[HNX.out,HPX.out,hix,if_pos hqV,HMA.out q hqA]
      have HC2:Hid (∀w',ab [] wr w'->w'.cell? ⟨gA,q,none⟩=some (.slice (eU A q).ao (eU A q).L.length (eU A q).cap)/\gA<w'.heap.size):=fun w' kw=>⟨by rw[World.cell?_of_block (kw.block gA hgA (by simp))];exact cA0,Nat.lt_of_lt_of_le hgA kw.size⟩
      clear hix;generalize eU A q=s at *;obtain⟨sao,scap,sL⟩:=s;simp only at cA0 HSS hsl HPQ HC2
      go_upto_region 6 with fail
      go_quiet (fail)
      have k3:=(ab.refl [] wr).drewN nq;have HW3:=(show Hid _ from HW2.out.still k3);have HSS3:=(show Hid _ from nr.still HSS.out k3);have hc3:=(show Hid _ from HSS3.out.cells);have hn3:Hid (sao=none->sL.length=0/\scap=0):=HSS3.out.nil;have hOw:=HW3.out.own;clear k3 HSS;go_wp2_with (at_builtin;refine eK _ rfl (.tmp 38) (.tmp 43) 61 rfl iS (.string ⟨#[]⟩) 16 h' (aD O) Tryz.underlying61 hiS hzS0 hzS1 hzS2 rfl Nat.one_pos rfl hOw sao sL.length scap (dN sL) rfl (by simp[aD,dN]) hn3.out hc3.out (ko sL) (by simp only[aD];omega) (by omega) ?_;intro h5 w5 hw5 hg5;rw[zh]at hw5;have HM2:=(show Hid _ from HW3.out.grew hg5 hw5);clear hw5 hg5)
      go_roundg (E.length-(k+1))
      case measure=>omega
      case rel=>exact⟨k+1,h5,O++sL,by omega,rfl,by simp[aD],by go_num,by simp;omega,HPQ,HM2⟩
    ·have eq:q=V.length:=by omega
     have hqi:decide ((q:Int)<(V.length:Int))=false:=decide_eq_false (by omega);have hqn:¬(q:Int)<(V.length:Int):=by omega
     have HPQ:Hid (O++[x]=gM V M (E.take (k+1))):=by
      show _=_
      rw[HNX.out,HPX.out,GX eq HNO.out,if_neg (by omega)]
     go_upto_region 6 with fail
     go_quiet (fail)
     have k3:=(ab.refl [] wr).drewN nq;have HW3:=(show Hid _ from HW2.out.still k3);have hOw:=HW3.out.own;have hOb:(aD O).n<=900000000:=by show O.length<=_;omega
     clear k3;go_wp2_with (at_builtin;refine bX _ rfl (.tmp 45) (.tmp 50) 61 rfl iS (.string ⟨#[]⟩) 16 h' (aD O) [.string x] Tryz.underlying61 hiS hzS0 hzS1 hzS2 rfl Nat.one_pos rfl hOw hOb (by omega) rfl rfl (by simp[Value.oneCell']) ?_;intro h5 w5 hw5 hg5;rw[dS]at hw5;have HM2:=(show Hid _ from HW3.out.grew hg5 hw5);clear hw5 hg5)
     go_roundg (E.length-(k+1))
     case measure=>omega
     case rel=>exact⟨k+1,h5,O++[x],by omega,rfl,by simp[aD],by go_num,by simp;omega,HPQ,HM2⟩
  ·have e:k=E.length:=by omega
   subst e;have HM:Hid (gM V M E=O):=by show _=_;rw[HO.out,List.take_length]
   go_wp2;go_ret;exact⟨h',by rw[HM.out];rfl,by rw[HM.out];exact HWr.out.base HKW.out⟩
end Go.Proofs.YtpddjjabfbfifaaGreat

import Derived.Test.YtlbhbocbakijbaaGreatG19
namespace Go.Proofs.YtlbhbocbakijbaaGreat
open Go.RowKit
set_option maxHeartbeats 0
abbrev Pr:=ByteArray×ByteArray
def GK(p:Pr):List Value:=[.string p.1,.string p.2]
def zP(l:List Pr):List Value:=l.flatMap GK
def fK(l:List Pr):eI:=⟨197,2,l.length,zP l⟩
theorem wU(l:List Pr)(x:Pr):(⟨(fK l).e,(fK l).size,(fK l).n+1,(fK l).xs++[.string x.1,.string x.2]⟩:eI)=fK (l++[x]):=by
 simp[fK,zP,GK]
theorem Fn:(Tryz.prog.info? 197).map (fun i=>(i.zero,i.size,i.bytes))=some (some (.agg #[.string ⟨#[]⟩,.string ⟨#[]⟩]),2,32):=by kernel_rfl
def gD(vs:List ByteArray)(i:Nat):ByteArray:=vs.getD i ⟨#[]⟩
def ij(vs:List ByteArray)(ms:List Bool)(i k:Nat):List Pr:=((List.range k).filter (fun j=>decide (i<j)&&bW vs.length ms i j)).map (fun j=>(gD vs i,gD vs j))
def lQ(vs:List ByteArray)(ms:List Bool)(i:Nat):List Pr:=(List.range i).flatMap (fun i=>ij vs ms i vs.length)
def sQ(vs:List ByteArray)(ms:List Bool):List Pr:=lQ vs ms vs.length
theorem wK(vs:List ByteArray)(ms:List Bool)(i:Nat):ij vs ms i (i+1)=[]:=by
 unfold ij;rw[List.map_eq_nil_iff,List.filter_eq_nil_iff];intro j hj;have:=List.mem_range.1 hj;simp;omega
theorem zN(vs:List ByteArray)(ms:List Bool)(i k:Nat)(hi:i<k)(h:bW vs.length ms i k=true):ij vs ms i (k+1)=ij vs ms i k++[(gD vs i,gD vs k)]:=by
 unfold ij;rw[List.range_succ,List.filter_append,List.map_append];simp[hi,h]
theorem CA(vs:List ByteArray)(ms:List Bool)(i k:Nat)(h:bW vs.length ms i k=false):ij vs ms i (k+1)=ij vs ms i k:=by
 unfold ij;rw[List.range_succ,List.filter_append,List.map_append];simp[h]
theorem rG(vs:List ByteArray)(ms:List Bool)(i:Nat):lQ vs ms (i+1)=lQ vs ms i++ij vs ms i vs.length:=by
 unfold lQ;rw[List.range_succ,List.flatMap_append];simp
theorem rF(vs:List ByteArray)(ms:List Bool)(i k:Nat):(ij vs ms i k).length<=k:=by
 unfold ij;rw[List.length_map];have:=List.length_filter_le (fun j=>decide (i<j)&&bW vs.length ms i j) (List.range k);simpa using this
theorem uJ(vs:List ByteArray)(ms:List Bool)(i:Nat):(lQ vs ms i).length<=i*vs.length:=by
 induction i with
 | zero=>simp[lQ]
 | succ i ih =>
  rw[rG,List.length_append,Nat.add_mul];have:=rF vs ms i vs.length;omega
def mJ(vs:List ByteArray)(ms:List Bool)(i j:Nat):List Pr:=lQ vs ms i++ij vs ms i j
theorem Cz(vs:List ByteArray)(ms:List Bool)(i j:Nat)(hi:i<=10000)(hv:vs.length<=10000)(hj:j<=10000):(mJ vs ms i j).length<=100010000:=by
 unfold mJ;rw[List.length_append];have h1:=uJ vs ms i;have h2:=rF vs ms i j;have h3:i*vs.length<=10000*10000:=Nat.mul_le_mul hi hv;omega
theorem sR(vs:List ByteArray)(ms:List Bool)(h:vs.length<=10000):(sQ vs ms).length<=100000000:=by
 have h1:=uJ vs ms vs.length;have h2:vs.length*vs.length<=10000*10000:=Nat.mul_le_mul h h;unfold sQ;omega
set_option maxRecDepth 100000 in
theorem uE(b o a:Nat)(l:List St)(H:Nat->Hd)(hw:Hd)(vs:List ByteArray)(w:World)(h:bZ w b o l H)(ok:db l)(hO:au w hw (am vs))(hvl:vs.length<=10000) :
  Calls Tryz.prog 132 #[.pointer (some ⟨b,o,none⟩),.int .i64 a,.slice hw.ao vs.length hw.cap] w fun e w'=>∃hd:Hd,e=.returned (.slice hd.ao (sQ vs (ce l a vs)).length hd.cap)/\au w' hd (fK (sQ vs (ce l a vs)))/\(∀x,hd.blk=some x->w.heap.size<=x)/\aa [] w w':=by
 obtain⟨i0,hi,hz0,hz1,hz2⟩:=info_parts Fn;have HAT:=(show Hid _ from vE b o a l H hw vs w h ok hO hvl);have hmlen:(ce l a vs).length=vs.length*vs.length:=fW l a vs _;generalize ce l a vs=ms at *;obtain⟨AO,HAO⟩:∃AO,Hid (hw.ao=AO):=⟨_,rfl⟩
 rw[HAO.out]at HAT ⊢;go_enter Tryz.func132,Tryz.ntmps132;go_wp2_with fail;refine Calls.mono HAT.out ?_;rintro e w1 ⟨tb,hv,hm,rfl,hA1,htb,hvb,k1⟩;go_wp2
 go_loopg [8,9] vs.length (fun gk sv i wr=>∃(k:Nat) (hd:Hd),k<=vs.length/\gk=vs.length-k/\i=.int .i64 k/\sv=.slice hd.ao (lQ vs ms k).length hd.cap/\au wr hd (fK (lQ vs ms k))/\(∀x,hd.blk=some x->w1.heap.size<=x)/\aa [] w1 wr)
 case atStart=>exact⟨0,⟨none,0⟩,by omega,by omega,rfl,rfl,World.ownsRow_nil _ _ _ _,by intro x hx;simp[Hd.blk]at hx,aa.refl _ _⟩
 case round =>
  obtain⟨k,hd,hk,hg,rfl,rfl,hO1,hN,hK⟩:=hrel
  by_cases hlt:k<vs.length
  ·have HNX:=(show Hid _ from rG vs ms k)
   have HZ:=(show Hid _ from wK vs ms k);have HB:Hid (mJ vs ms k (k+1)=lQ vs ms k):=by show lQ vs ms k++_=_;rw[HZ.out,List.append_nil]
   have HE:Hid (mJ vs ms k vs.length=lQ vs ms (k+1)):=HNX.out.symm;go_wp2_with fail
   go_loopg [8,10] (vs.length-(k+1)) (fun gk2 sv2 i2 wr2=>∃(j:Nat) (hd2:Hd),k<j/\j<=vs.length/\gk2=vs.length-j/\i2=.int .i64 j/\sv2=.slice hd2.ao (mJ vs ms k j).length hd2.cap/\au wr2 hd2 (fK (mJ vs ms k j))/\(∀x,hd2.blk=some x->w1.heap.size<=x)/\aa [] w1 wr2)
   case atStart=>exact⟨k+1,hd,by omega,by omega,rfl,by go_num,by rw[HB.out],by rw[HB.out];exact hO1,hN,hK⟩
   case round =>
    obtain⟨j,hd2,hkj,hj,hg2,rfl,rfl,hO2,hN2,hK2⟩:=hrel;clear hO1 hN hK;have hPl:=Cz vs ms k j (by omega) hvl (by omega)
    by_cases hlj:j<vs.length
    ·have hA2:=hA1.still hK2
     have hOv:au wr hw (am vs):=hO.moved (fun x hx=>(k1.trans hK2).block x (hO.lt hx) (by simp))
     rcases hOv.ways with ⟨_,h0,_⟩ | ⟨gv,curv,ev,ev2,ev3,-⟩
     ·have:vs.length=0:=h0
      omega
     have cv1:=hOv.cell ev k (.string vs[k]) (by simp[am,strs,hlt]);have cv2:=hOv.cell ev j (.string vs[j]) (by simp[am,strs,hlj]);have hgv0:=hO.lt (k:=gv) (by unfold Hd.blk;rw[ev];rfl);have hAO:AO=some ⟨gv,0,none⟩:=by rw[<-HAO.out];exact ev
     subst hAO;have hgv:=ac ev2;have hgk:gD vs k=vs[k]:=jy vs k hlt;have hgj:gD vs j=vs[j]:=jy vs j hlj;have HY:Hid (bW vs.length ms k j=true->mJ vs ms k (j+1)=mJ vs ms k j++[(gD vs k,gD vs j)]):=fun hp=>by unfold mJ;rw[zN vs ms k j hkj hp,List.append_assoc]
     have HN0:Hid (bW vs.length ms k j=false->mJ vs ms k (j+1)=mJ vs ms k j):=fun hp=>by unfold mJ;rw[CA vs ms k j hp]
     rw[hgk,hgj]at HY;clear hgk hgj ev2 hOv;have hki:(k:Int)<vs.length:=by omega
     have hji:(j:Int)<vs.length:=by omega
     have hk0:(0:Int)<=k:=by omega
     have hj0:(0:Int)<=j:=by omega
     generalize vs[k]=x at *;generalize vs[j]=y at *
     cases hap:bW vs.length ms k j
     ·have HT:=(show Hid _ from HN0.out hap)
      clear HY HN0;go_wp2_with (go_at_call 153;refine(kM tb vs ms hv hm k j _ (by exact hA2) hmlen hvl hlt hlj).mono ?_;rintro e w9 ⟨rfl,hw9⟩;rw[hw9,hap])
      go_roundg (vs.length-(j+1))
      case measure=>omega
      case rel=>exact⟨j+1,hd2,by omega,by omega,rfl,by go_num,by rw[HT.out],by rw[HT.out];exact hO2,hN2,hK2⟩
     ·have HT:=(show Hid _ from HY.out hap)
      clear HY HN0;generalize mJ vs ms k j=PL at *
      have s3:Hid (∀u∈([.string x,.string y]:List Value),u.oneCell'=true):=by
       intro u hu;simp at hu;rcases hu with rfl | rfl <;> rfl
      have s4:Hid ((fK PL).n+1<=maxLen):=by show _<=_;simp only[fK];unfold maxLen;omega
      have s5:Hid (((fK PL).n+1)*32<=140737488355328):=by show _<=_;simp only[fK];omega
      have K4:Hid (aa [] wr (wr.alloc (.cells #[.string x,.string y] 197)).drew):=((aa.refl [] wr).alloc _).drew;have hD:Hid (au (wr.alloc (.cells #[.string x,.string y] 197)).drew hd2 (fK PL)):=hO2.moved (fun z hz=>K4.out.block z (hO2.lt hz) (by simp))
      have s2:Hid (∀j u,([.string x,.string y]:List Value)[j]?=some u->(wr.alloc (.cells #[.string x,.string y] 197)).drew.cell? ((⟨wr.heap.size,0,none⟩:Addr).add j)=some u):=by
       intro j u hj;rw[aV];have hk:(wr.alloc (.cells #[.string x,.string y] 197)).drew.heap[wr.heap.size]?=some (.cells #[.string x,.string y] 197 (0,0)):=heap_alloc_new _ _;rw[ab hk];simpa using hj
      have HS:Hid (∀w5,(wr.alloc (.cells #[.string x,.string y] 197)).drew.grownBy w5 hd2.blk->w5.cell? ⟨gv,k,none⟩=some (.string x)/\w5.cell? ⟨gv,j,none⟩=some (.string y)):=by
       intro w5 hgr;have e:w5.heap[gv]?=wr.heap[gv]?:=(hgr.block gv (Nat.lt_of_lt_of_le hgv K4.out.size) (fun e=>by have:=hN2 gv e.symm;have:=k1.size;omega)).trans (K4.out.block gv hgv (by simp));exact⟨by rw[World.cell?_of_block e];exact cv1,by rw[World.cell?_of_block e];exact cv2⟩
      go_upto_region 10 with (go_at_call 153;refine(kM tb vs ms hv hm k j _ (by exact hA2) hmlen hvl hlt hlj).mono ?_;rintro e w9 ⟨rfl,hw9⟩;rw[hw9,hap])
      go_region_held3 (fun w'=>w'.cell? ⟨gv,k,none⟩=some (.string x)/\w'.cell? ⟨gv,j,none⟩=some (.string y)) (go_keep) ((refine aC (by rfl) (.tmp 33) (.tmp 43) 191 (by rfl) i0 (.agg #[.string ⟨#[]⟩,.string ⟨#[]⟩]) 32 hd2 (fK PL) Tryz.underlying191 hi hz0 hz1 hz2 rfl Nat.two_pos (by simp[Act.eval] <;> rfl) hD.out ⟨wr.heap.size,0,none⟩ 1 1 [.string x,.string y] (by simp[Act.eval]) rfl s2.out s3.out Nat.one_pos s4.out s5.out ?_;intro g5 cap5 w5 hw5 hgr5 hfresh5;obtain⟨q1,q2⟩:=HS.out w5 hgr5))
      rw[wU PL (x,y),<-HT.out]at hw5;have hK5:=(hK2.trans K4.out).grown hgr5 hN2
      have hg5:w1.heap.size<=g5:=by
       rcases hfresh5 with e | e
       ·exact hN2 g5 e
       ·have:=(hK2.trans K4.out).size;simp at e this;omega
      have hEl:Hid ((fK PL).n+1=(mJ vs ms k (j+1)).length):=by show _=_;rw[HT.out];simp[fK]
      rw[hEl.out];clear hgr5 hfresh5 q1 q2;go_wp2
      go_roundg (vs.length-(j+1))
      case measure=>omega
      case rel=>exact⟨j+1,⟨some ⟨g5,0,none⟩,cap5⟩,by omega,by omega,rfl,by go_num,rfl,hw5,by intro x hx;simp[Hd.blk]at hx;omega,hK5⟩
    ·have e:j=vs.length:=by omega
     subst e;rw[HE.out]at hO2 ⊢;go_wp2
     go_roundg (vs.length-(k+1))
     case measure=>omega
     case rel=>exact⟨k+1,hd2,by omega,rfl,by go_num,rfl,hO2,hN2,hK2⟩
  ·have e:k=vs.length:=by omega
   subst e;go_wp2;go_ret;exact⟨hd,rfl,hO1,fun x hx=>by have:=hN x hx;have:=k1.size;omega,k1.trans hK⟩
def br(l:List St)(a:Nat):List Pr:=sQ (dS l (aq l a)) (ce l a (dS l (aq l a)))
def dY(l:List St)(n:Nat):ByteArray:=match l[n]? with | some s=>dK s | none=>⟨#[]⟩
def cJ(p:Pr):ByteArray:=⟨#[36,100,32]⟩++p.1++⟨#[32]⟩++p.2
def aM(l:List St)(a:Nat):List ByteArray:=(aq l a).map (dY l)++(br l a).map cJ++[dY l a]
theorem mu(l:List St)(a n:Nat)(h:n∈aq l a):n<l.length:=by
 unfold aq cd at h;exact List.mem_range.1 (List.mem_filter.1 h).1
theorem mt(l:List St)(a:Nat):(aq l a).length<=l.length:=by
 unfold aq cd;have:=List.length_filter_le (gn l (cc l a) a) (List.range l.length);simpa using this
theorem kR(l:List St)(hs:List Nat):(dS l hs).length<=hs.length:=List.length_filterMap_le _ _
set_option maxRecDepth 100000 in
theorem Fp(b o a:Nat)(l:List St)(H:Nat->Hd)(w:World)(h:bZ w b o l H)(ha:a<l.length)(ok:db l) :
  Calls Tryz.prog 113 #[.pointer (some ⟨b,o,none⟩),.int .i64 a] w fun e w'=>∃hh hp:Hd,e=.returned (.agg #[.slice hh.ao (aq l a).length hh.cap,.slice hp.ao (br l a).length hp.cap])/\au w' hh (aP (aq l a))/\au w' hp (fK (br l a))/\(∀k,hh.blk=some k∨hp.blk=some k->w.heap.size<=k)/\aa [] w w':=by
 have hlen:=ok.len;have hhl:=mt l a;have hvl:=kR l (aq l a);have HLT:Hid (∀x∈aq l a,x<l.length):=fun x hx=>mu l a x hx
 have HP:Hid (br l a=sQ (dS l (aq l a)) (ce l a (dS l (aq l a)))):=rfl;obtain⟨W,hW⟩:∃W,W=w.alloc (.cells #[.slice none 0 0,.slice none 0 0] 193):=⟨_,rfl⟩
 have hK:aa [] w W:=by rw[hW];exact(aa.refl [] _).alloc _
 have hF:W.heap[w.heap.size]?=some (.cells #[.slice none 0 0,.slice none 0 0] 193 (0,0)):=by rw[hW];exact heap_alloc_new _ _
 have HW:=(show Hid _ from hW.symm);clear hW;have hrW:=h.still hK;have HHA:=(show Hid _ from iw b o a l H W hrW ha ok);go_enter Tryz.func113,Tryz.ntmps113;go_wp2_with fail;rw[HW.out];refine Calls.mono HHA.out ?_;rintro e w1 ⟨hh,rfl,hO1,hN1,k1⟩;go_wp2_with fail;refine(oj b o l H (aq l a) hh w1 (hrW.still k1) ok hO1 (by omega) HLT.out).mono ?_;rintro e w2 ⟨hv,rfl,hO2,hN2,k2⟩;go_wp2_with fail;refine(uE b o a l H hv (dS l (aq l a)) w2 ((hrW.still k1).still k2) ok hO2 (by omega)).mono ?_;rintro e w3 ⟨hp,rfl,hO3,hN3,k3⟩;rw[<-HP.out]at hO3 ⊢;have hO13:au w3 hh (aP (aq l a)):=hO1.moved (fun x hx=>(k2.trans k3).block x (hO1.lt hx) (by simp));have hF3:=((k1.trans k2).trans k3).get hF (by simp);have hK3:aa [] w w3:=((hK.trans k1).trans k2).trans k3;have hs1:=(hK.trans k1).size;have hs2:=((hK.trans k1).trans k2).size;have hq1:=k1.size;have hq2:=k2.size;have hsW:=ac hF;have hsw:=hK.size;have z0:w3.cell? ⟨w.heap.size,0,none⟩=some (.slice none 0 0):=by rw[ab hF3];rfl
 have z1:w3.cell? ⟨w.heap.size,1,none⟩=some (.slice none 0 0):=by rw[ab hF3];rfl
 have yf:=an hF3;have HO1:Hid (∀u v,au ((w3.setCell ⟨w.heap.size,0,none⟩ u).setCell ⟨w.heap.size,1,none⟩ v) hh (aP (aq l a))):=fun u v=>hO13.moved (fun x hx=>(Below.heap_setCell _ _ _ _ (by have:=hN1 x hx;show x≠w.heap.size;omega)).trans (Below.heap_setCell _ _ _ _ (by have:=hN1 x hx;show x≠w.heap.size;omega)))
 have HO3:Hid (∀u v,au ((w3.setCell ⟨w.heap.size,0,none⟩ u).setCell ⟨w.heap.size,1,none⟩ v) hp (fK (br l a))):=fun u v=>hO3.moved (fun x hx=>(Below.heap_setCell _ _ _ _ (by have:=hN3 x hx;show x≠w.heap.size;omega)).trans (Below.heap_setCell _ _ _ _ (by have:=hN3 x hx;show x≠w.heap.size;omega)))
 clear hO1 hO2 hO3 hO13;go_wp2
 exact bodyPost_ret (v:=.agg #[.slice hh.ao (aq l a).length hh.cap,.slice hp.ao (br l a).length hp.cap]) (by simp[results,Tryz.results113,go_sem,z0,z1]) rfl
  ⟨hh,hp,rfl,HO1.out _ _,HO3.out _ _,fun k hk=>hk.elim (fun hk=>by have:=hN1 k hk;omega) (fun hk=>by have:=hN3 k hk;omega),
   (hK3.setCell (Or.inr (Nat.le_refl _)) _).setCell (Or.inr (Nat.le_refl _)) _⟩
def kt(L:List ByteArray)(k:Nat):List ByteArray:=L.take k++List.replicate (L.length-k) ⟨#[]⟩
theorem zM(L:List ByteArray)(k:Nat)(h:k<=L.length):(kt L k).length=L.length:=by simp[kt];omega
theorem wH(L:List ByteArray)(k:Nat)(h:k<L.length):kt L (k+1)=(kt L k).set k L[k]:=by
 unfold kt;rw[dv L k h]
 apply List.ext_getElem?
 intro i;have hk:(L.take k).length=k:=by simp;omega
 rcases Nat.lt_trichotomy i k with hi | hi | hi
 ·rw[List.getElem?_set_ne (by omega),List.getElem?_append_left (by simp;omega),List.getElem?_append_left (by omega),List.getElem?_append_left (by omega)]
 ·subst hi
  rw[List.getElem?_set_self (by simp;omega),List.getElem?_append_left (by simp;omega),List.getElem?_append_right (by omega),hk];simp
 ·rw[List.getElem?_set_ne (by omega),List.getElem?_append_right (by simp;omega),List.getElem?_append_right (by omega)]
  simp only[List.length_append,hk,List.length_singleton,List.getElem?_replicate]
  by_cases h2:i<L.length
  ·rw[if_pos (by omega),if_pos (by omega)]
  ·rw[if_neg (by omega),if_neg (by omega)]
theorem zL(L:List ByteArray):kt L L.length=L:=by simp[kt]
theorem C7(L:List ByteArray)(k:Nat)(x:ByteArray):strs (L.set k x)=(strs L).set k (.string x):=by simp[strs,List.map_set]
def eQ(w:World)(g:Nat)(L:List ByteArray)(k:Nat):Prop:=w.heap[g]?=some (.cells (strs (kt L k)).toArray 9 (0,0))
theorem eQ.next{w:World}{g:Nat}{L:List ByteArray}{k:Nat}{x:ByteArray}(h:eQ w g L k)(hx:L[k]?=some x):eQ (w.setCell ⟨g,k,none⟩ (.string x)) g L (k+1):=by
 obtain⟨hk,rfl⟩:=List.getElem?_eq_some_iff.1 hx;unfold eQ at h ⊢;rw[ae h,wH L k hk,C7,List.setIfInBounds_toArray]
theorem eQ.cell{w:World}{g:Nat}{L:List ByteArray}{k i:Nat}(h:eQ w g L k)(hk:k<=L.length)(hi:i<L.length):∃x,w.cell? ⟨g,i,none⟩=some (.string x):=by
 refine⟨(kt L k)[i]'(by rw[zM L k hk];exact hi),?_⟩;rw[ab h];simp[strs]
theorem eQ.kept{w w':World}{g:Nat}{L:List ByteArray}{k:Nat}{S:List Nat}(h:eQ w g L k)(q:aa S w w')(hg:g∉S):eQ w' g L k:=q.get h hg
def tB(l:List St):Prop:=∀s∈l,s.kind≠1->DB s
theorem ni(l:List St)(a:Nat):(aM l a).length=(aq l a).length+(br l a).length+1:=by simp[aM];omega
theorem ru(l:List St)(a k:Nat)(h:k<(aq l a).length)(hq:(aq l a)[k]<l.length):(aM l a)[k]?=some (dK l[(aq l a)[k]]):=by
 unfold aM;rw[List.getElem?_append_left (by simp;omega),List.getElem?_append_left (by simpa using h),List.getElem?_map,List.getElem?_eq_getElem h];simp[dY,List.getElem?_eq_getElem hq]
theorem pu(l:List St)(a j:Nat)(h:j<(br l a).length):(aM l a)[(aq l a).length+j]?=some (cJ (br l a)[j]):=by
 unfold aM;rw[List.getElem?_append_left (by simp;omega),List.getElem?_append_right (by simp),List.getElem?_map];simp[h]
theorem pq(l:List St)(a:Nat)(ha:a<l.length):(aM l a)[(aq l a).length+(br l a).length]?=some (dK l[a]):=by
 unfold aM;rw[List.getElem?_append_right (by simp)];simp[dY,List.getElem?_eq_getElem ha]
theorem pn(l:List St)(a n:Nat)(h:n∈aq l a)(hn:n<l.length):l[n].kind=2∨l[n].kind=3:=by
 unfold aq cd at h;obtain⟨-,h2⟩:=List.mem_filter.1 h;unfold gn at h2;rw[List.getElem?_eq_getElem hn]at h2;simp only[Bool.and_eq_true]at h2;have:=h2.2;unfold jR at this
 cases e2:(l[n].kind==2)
 ·rw[e2]at this;right;simpa using this
 ·left;simpa using e2
theorem xY(vs:List ByteArray)(i n:Nat)(h:∀x∈vs,x.size<=n):(gD vs i).size<=n:=by
 unfold gD;rw[List.getD_eq_getElem?_getD]
 cases e:vs[i]? with
 | none=>exact Nat.zero_le _
 | some x=>exact h x (List.mem_of_getElem? e)
theorem pK(l:List St)(a:Nat)(hz:tB l)(p:Pr)(h:p∈br l a):p.1.size<=100000/\p.2.size<=100000:=by
 have hv:∀x∈dS l (aq l a),x.size<=100000:=by
  intro x hx;unfold dS at hx;obtain⟨n,hn,he⟩:=List.mem_filterMap.1 hx;have hnl:=mu l a n hn;unfold jb at he;rw[List.getElem?_eq_getElem hnl]at he;simp only at he
  split at he
  ·next h2 =>
   cases he
   have hk:=pn l a n hn hnl;have hs:=hz l[n] (List.getElem_mem hnl) (by omega);unfold al
   split
   ·next hc =>
    refine hs.syms _ ?_;rw[List.getD_eq_getElem?_getD,List.getElem?_eq_getElem (show 1<l[n].symbols.length by omega)];exact List.getElem_mem _
   ·exact Nat.zero_le _
  ·cases he
 unfold br sQ lQ at h;obtain⟨i,-,h⟩:=List.mem_flatMap.1 h;unfold ij at h;obtain⟨j,-,rfl⟩:=List.mem_map.1 h;exact⟨xY _ _ _ hv,xY _ _ _ hv⟩
theorem DL:(⟨#[36,100,32]⟩:ByteArray).size=3:=rfl
theorem Ez(L:List Pr)(k:Nat)(h:k<L.length):(zP L)[k*2]?=some (.string L[k].1)/\(zP L)[k*2+1]?=some (.string L[k].2):=by
 induction L generalizing k with
 | nil=>simp at h
 | cons p L ih =>
  cases k with
  | zero=>exact⟨rfl,rfl⟩
  | succ k =>
   have:=ih k (by simpa using h);have e:zP (p :: L)=.string p.1 :: .string p.2 :: zP L:=rfl;rw[e];refine⟨?_,?_⟩
   ·rw[show(k+1)*2=k*2+1+1 by omega];simpa using this.1
   ·rw[show(k+1)*2+1=k*2+1+1+1 by omega];simpa using this.2
set_option maxRecDepth 100000 in
theorem wA(b o a:Nat)(l:List St)(H:Nat->Hd)(w:World)(h:bZ w b o l H)(ha:a<l.length)(ok:db l)(hz:tB l)(hka:l[a].kind≠1) :
  Calls Tryz.prog 95 #[.pointer (some ⟨b,o,none⟩),.int .i64 a] w fun e w'=>∃g,e=.returned (.slice (some ⟨g,0,none⟩) (aM l a).length (aM l a).length)/\eQ w' g (aM l a) (aM l a).length/\w.heap.size<=g/\aa [] w w':=by
 obtain⟨i0,hi,hz0,hz1,hz2⟩:=info_parts dp;have hlen:=ok.len;have hhl:=mt l a;have hvl:=kR l (aq l a);have hpl:(br l a).length<=100000000:=sR _ _ (by omega);have HLL:=(show Hid _ from ni l a);obtain⟨N,HN⟩:∃N,Hid ((aM l a).length=N):=⟨_,rfl⟩
 rw[HN.out]at HLL ⊢;have HLh:Hid (∀k (h:k<(aq l a).length) (hq:(aq l a)[k]<l.length),(aM l a)[k]?=some (dK l[(aq l a)[k]])):=fun k h hq=>ru l a k h hq
 have HLp:Hid (∀j (h:j<(br l a).length),(aM l a)[(aq l a).length+j]?=some (cJ (br l a)[j])):=fun j h=>pu l a j h
 have HLl:Hid ((aM l a)[(aq l a).length+(br l a).length]?=some (dK l[a])):=pq l a ha;have HPS:=(show Hid _ from pK l a hz);have HHK:Hid (∀n∈aq l a,∃h:n<l.length,DB l[n]):=fun n hn=>⟨mu l a n hn,hz _ (List.getElem_mem _) (by have:=pn l a n hn (mu l a n hn);omega)⟩
 have hsa:=hz _ (List.getElem_mem ha) hka;have HOF:=(show Hid _ from Fp b o a l H w h ha ok);have m1:=fun w=>cA (P:=Tryz.prog) w 22 9 i0 _ Tryz.underlying22 hi hz0 N 1 hz1 (by rw[hz2];have:=HLL.out;omega) (by have:=HLL.out;omega)
 obtain⟨mc,hmc⟩:∃mc,mc=madeCells (Value.string ⟨#[]⟩).cells (N*1):=⟨_,rfl⟩
 rw[<-hmc]at m1
 have HMC:Hid (mc=(strs (kt (aM l a) 0)).toArray):=by
  show _=_
  rw[hmc];have e:(Value.string ⟨#[]⟩).cells=#[.string ⟨#[]⟩]:=rfl;rw[e,ut];simp[kt,strs,HN.out]
 clear hmc hz;generalize hL:aM l a=L at *;generalize hHy:aq l a=hs at *;generalize hPr:br l a=ps at *;clear hL hHy hPr hvl;have hNi:(hs.length:Int)+(ps.length:Int)+1=(N:Int):=by have:=HLL.out;omega
 have hNb:N<=200000000:=by have:=HLL.out;omega
 have hnN:hs.length+ps.length<N:=by have:=HLL.out;omega
 go_enter Tryz.func95,Tryz.ntmps95;go_wp2_with fail;refine Calls.mono HOF.out ?_;rintro e w1 ⟨hh,hp,rfl,hO1,hO2,hN1,k1⟩;obtain⟨AH,HAH⟩:∃AH,Hid (hh.ao=AH):=⟨_,rfl⟩
 obtain⟨AP,HAP⟩:∃AP,Hid (hp.ao=AP):=⟨_,rfl⟩
 rw[HAH.out,HAP.out];obtain⟨X,hX⟩:∃X,X=w1.alloc (.cells #[.slice AH hs.length hh.cap,.slice AP ps.length hp.cap] 193):=⟨_,rfl⟩
 have kX:aa [] w1 X:=by rw[hX];exact(aa.refl [] _).alloc _
 have BX:X.heap[w1.heap.size]?=some (.cells #[.slice AH hs.length hh.cap,.slice AP ps.length hp.cap] 193 (0,0)):=by rw[hX];exact heap_alloc_new _ _
 have HX:=(show Hid _ from hX.symm);clear hX;obtain⟨Y,hY⟩:∃Y,Y=X.alloc (.cells mc 9):=⟨_,rfl⟩
 have kY:aa [] X Y:=by rw[hY];exact(aa.refl [] _).alloc _
 have BY:eQ Y X.heap.size L 0:=by unfold eQ;rw[hY,<-HMC.out];exact heap_alloc_new _ _
 have HY:=(show Hid _ from hY.symm);clear hY;have u0:X.cell? ⟨w1.heap.size,0,none⟩=some (.slice AH hs.length hh.cap):=by rw[ab BX];rfl
 have u1:X.cell? ⟨w1.heap.size,1,none⟩=some (.slice AP ps.length hp.cap):=by rw[ab BX];rfl
 have hFX:=ac BX;have hrX:=h.still (k1.trans kX);have hsX:=(k1.trans kX).size;have hO1X:au X hh (aP hs):=hO1.moved (fun x hx=>kX.block x (hO1.lt hx) (by simp));have hO2X:au X hp (fK ps):=hO2.moved (fun x hx=>kX.block x (hO2.lt hx) (by simp))
 go_upto_region 3 with fail
 rw[HX.out]
 go_upto_region 4 with fail
 rw[HY.out];clear u0 u1 m1;generalize hG:X.heap.size=G at *;go_wp2
 go_loopg [8] hs.length (fun gk i wr=>∃(k:Nat),k<=hs.length/\gk=hs.length-k/\i=.int .i64 k/\eQ wr G L k/\aa [] X wr)
 case atStart=>exact⟨0,by omega,by omega,rfl,BY,kY⟩
 case round =>
  obtain⟨k,hk,hg,rfl,hLn,hK⟩:=hrel;have hrr:=hrX.still hK;have BXr:=hK.get BX (by simp);have hFr:=ac BXr;have u0:wr.cell? ⟨w1.heap.size,0,none⟩=some (.slice AH hs.length hh.cap):=by rw[ab BXr];rfl
  have u1:wr.cell? ⟨w1.heap.size,1,none⟩=some (.slice AP ps.length hp.cap):=by rw[ab BXr];rfl
  by_cases hlt:k<hs.length
  ·have hOHr:au wr hh (aP hs):=hO1X.moved (fun x hx=>hK.block x (hO1X.lt hx) (by simp))
   rcases hOHr.ways with ⟨_,h0,_⟩ | ⟨gh,curh,eh,eh2,eh3,-⟩
   ·have:hs.length=0:=h0
    omega
   have ch:=hOHr.cell eh k (.int .i64 hs[k]) (fM hs k hlt);have hAH:AH=some ⟨gh,0,none⟩:=by rw[<-HAH.out];exact eh
   subst hAH;obtain⟨hql,hqs⟩:=HHK.out hs[k] (List.getElem_mem hlt);have HLk:=(show Hid _ from HLh.out k hlt hql);have hki:(k:Int)<hs.length:=by omega
   clear eh eh2 eh3 hOHr;generalize hs[k]=q at *;have hsl:=ok.syms q hql;have hqv:=(hrr.sts.syms q l[q] (List.getElem?_eq_getElem hql)).view;go_wp2_with fail;refine(aI b o q l H wr hrr hql).mono ?_;rintro e w3 ⟨rfl,k3⟩;go_wp2_with fail;refine(ul l[q] _ _ w3 (hqv.still k3) hsl hqs).mono ?_;rintro e w4 ⟨rfl,k4⟩;have K34:=k3.trans k4;have hLn4:=hLn.kept K34 (by simp);obtain⟨x0,cx⟩:=hLn4.cell (i:=k) (by have:=HN.out;omega) (by have:=HN.out;omega);have hfr:=an hLn4;have hGw:=ac hLn4;have HNX:=(show Hid _ from hLn4.next HLk.out);have hKK:=hK.trans K34;have hkN:(k:Int)<(N:Int):=by omega
   generalize dK l[q]=tx at *;go_wp2
   go_roundg (hs.length-(k+1))
   case measure=>omega
   case rel=>exact⟨k+1,by omega,rfl,by go_num,HNX.out,hKK.setCell (Or.inr (Nat.le_of_eq hG)) _⟩
  ·have e:k=hs.length:=by omega
   subst e;clear u0;go_wp2
   go_loopg [9] ps.length (fun gk2 i2 wr2=>∃(j:Nat),j<=ps.length/\gk2=ps.length-j/\i2=.int .i64 j/\eQ wr2 G L (hs.length+j)/\aa [] X wr2)
   case atStart=>exact⟨0,by omega,by omega,rfl,hLn,hK⟩
   case round =>
    obtain⟨j,hj,hg2,rfl,hLn2,hK2⟩:=hrel;clear hLn hK hrr BXr hFr u1;have BX2:=hK2.get BX (by simp);have hF2:=ac BX2;have u1:wr.cell? ⟨w1.heap.size,1,none⟩=some (.slice AP ps.length hp.cap):=by rw[ab BX2];rfl
    by_cases hlj:j<ps.length
    ·have hOPr:au wr hp (fK ps):=hO2X.moved (fun x hx=>hK2.block x (hO2X.lt hx) (by simp))
     rcases hOPr.ways with ⟨_,h0,_⟩ | ⟨gp,curp,ep,ep2,ep3,-⟩
     ·have:ps.length=0:=h0
      omega
     obtain⟨v1,v2⟩:=Ez ps j hlj;have cp1:=hOPr.cell ep (j*2) _ v1;have cp2:=hOPr.cell ep (j*2+1) _ v2;have hgp:=ac ep2;have hAP:AP=some ⟨gp,0,none⟩:=by rw[<-HAP.out];exact ep
     subst hAP;have HLk:=(show Hid _ from HLp.out j hlj);obtain⟨z1,z2⟩:=HPS.out _ (List.getElem_mem hlj);have hji:(j:Int)<ps.length:=by omega
     have hj0:(0:Int)<=j:=by omega
     have hx0:(0:Int)<=(hs.length:Int)+(j:Int):=by omega
     have hx1:(hs.length:Int)+(j:Int)<(N:Int):=by omega
     have hwr:IntKind.i64.wrap ((hs.length:Int)+(j:Int))=(hs.length:Int)+(j:Int):=by rw[IntKind.wrap_i64];omega
     have htn:((hs.length:Int)+(j:Int)).toNat=hs.length+j:=by omega
     have hgpX:=hO2X.lt (k:=gp) (by unfold Hd.blk;rw[ep];rfl);have ne1:G≠w1.heap.size:=by omega
     have ne2:w1.heap.size≠G:=by omega
     have ne3:G≠gp:=by omega
     have ne4:gp≠G:=by omega
     clear ep ep2 ep3 hOPr v1 v2;generalize ps[j]=pp at *;obtain⟨p1,p2⟩:=pp;simp only at cp1 cp2 z1 z2;have HT:Hid (⟨#[36,100,32]⟩++p1++⟨#[32]⟩++p2=cJ (p1,p2)):=rfl;have n1:¬9223372036854775807<3+p1.size:=by omega
     have n2:¬9223372036854775807<3+p1.size+1:=by omega
     have n3:¬9223372036854775807<3+p1.size+1+p2.size:=by omega
     obtain⟨x0,cx⟩:=hLn2.cell (i:=hs.length+j) (by have:=HN.out;omega) (by have:=HN.out;omega);have hfr:=an hLn2;have hGw:=ac hLn2;have HNX:Hid (eQ (wr.setCell ⟨G,hs.length+j,none⟩ (.string (cJ (p1,p2)))).drew G L (hs.length+j+1)):=(hLn2.next HLk.out).kept (aa.refl [] _).drew (by simp)
     go_upto_region 11 with fail
     go_region_held3 (fun w'=>w'.cell? ⟨w1.heap.size,1,none⟩=some (.slice (some ⟨gp,0,none⟩) ps.length hp.cap)/\w'.cell? ⟨gp,j*2,none⟩=some (.string p1)/\w'.cell? ⟨gp,j*2+1,none⟩=some (.string p2)) (go_keep) (fail)
     rw[HT.out];go_wp2
     go_roundg (ps.length-(j+1))
     case measure=>omega
     case rel=>exact⟨j+1,by omega,rfl,by go_num,HNX.out,(hK2.setCell (Or.inr (Nat.le_of_eq hG)) _).drew⟩
    ·have e:j=ps.length:=by omega
     subst e;have hrr:=hrX.still hK2;have hqv:=(hrr.sts.syms a l[a] (List.getElem?_eq_getElem ha)).view;have hsl:=ok.syms a ha;have htn:((hs.length:Int)+(ps.length:Int)).toNat=hs.length+ps.length:=by omega
     have hNs:(N:Int)-1=(hs.length:Int)+(ps.length:Int):=by omega
     go_wp2_with fail;refine(aI b o a l H wr hrr ha).mono ?_;rintro e w3 ⟨rfl,k3⟩;go_wp2_with fail;refine(ul l[a] _ _ w3 (hqv.still k3) hsl hsa).mono ?_;rintro e w4 ⟨rfl,k4⟩;have K34:=k3.trans k4;have hLn4:=hLn2.kept K34 (by simp);obtain⟨x0,cx⟩:=hLn4.cell (i:=hs.length+ps.length) (by have:=HN.out;omega) (by have:=HN.out;omega);have hfr:=an hLn4;have hGw:=ac hLn4;have HNX:=(show Hid _ from hLn4.next HLl.out);have hKK:=hK2.trans K34;have hx0:(0:Int)<=(hs.length:Int)+(ps.length:Int):=by omega
     have hx1:(hs.length:Int)+(ps.length:Int)<(N:Int):=by omega
     have HE:Hid (hs.length+ps.length+1=N):=HLL.out.symm;rw[HE.out]at HNX;generalize dK l[a]=tx at *;go_wp2;go_ret;exact⟨G,rfl,HNX.out,by omega,(k1.trans (kX.trans hKK)).setCell (Or.inr (by show w.heap.size<=G;omega)) _⟩
theorem dP.recd{w:World}{x:Nat}{fs:Fs}{l:List St}{H:Nat->Hd}{g:Nat}(h:dP w x fs l H g):bZ w x 10 l H:=by
 obtain⟨a7,n7,c7,hv⟩:=h.ver;exact⟨⟨_,_,hv.1,rfl⟩,h.sts⟩
theorem zY(b o:Nat)(lab:ByteArray)(l:List St)(H:Nat->Hd)(w:World)(h:bZ w b o l H)(hl:l.length<=1073741824) :
  Calls Tryz.prog 84 #[.pointer (some ⟨b,o,none⟩),.string lab] w fun e w'=>e=.returned (.int .i64 (bQ (ey l lab)))/\aa [] w w':=by
 have HFA:=(show Hid _ from mp b o lab l H w h hl);go_enter Tryz.func84,Tryz.ntmps84;go_wp2_with fail;refine Calls.mono HFA.out ?_;rintro e w1 ⟨rfl,k1⟩;go_wp2;go_ret;exact⟨rfl,k1⟩
theorem wT(b o a:Nat)(l:List St)(H:Nat->Hd)(w:World)(h:bZ w b o l H)(ha:a<l.length)(ok:db l)(hz:tB l)(hka:l[a].kind≠1) :
  Calls Tryz.prog 79 #[.pointer (some ⟨b,o,none⟩),.int .i64 a] w fun e w'=>∃g,e=.returned (.slice (some ⟨g,0,none⟩) (aM l a).length (aM l a).length)/\eQ w' g (aM l a) (aM l a).length/\w.heap.size<=g/\aa [] w w':=by
 have HFA:=(show Hid _ from wA b o a l H w h ha ok hz hka);go_enter Tryz.func79,Tryz.ntmps79;go_wp2_with fail;refine Calls.mono HFA.out ?_;rintro e w1 ⟨g,rfl,h1,h2,k1⟩;go_wp2;go_ret;exact⟨g,rfl,h1,h2,k1⟩
theorem rS(x:Nat)(fs:Fs)(l:List St)(H:Nat->Hd)(g:Nat)(lab:ByteArray)(w:World)(h:dP w x fs l H g)(hl:l.length<=1073741824) :
  Calls Tryz.prog 68 #[.pointer (some ⟨x,0,none⟩),.string lab] w fun e w'=>e=.returned (match ey l lab with | some n=>.tuple #[.int .i64 n,.int .i64 0] | none=>.tuple #[.int .i64 0,.int .i64 8])/\aa [] w w':=by
 have HFA:=(show Hid _ from zY x 10 lab l H w h.recd hl);obtain⟨a7,n7,c7,hv⟩:=h.ver;obtain⟨c9,c10,c11,c12⟩:=iR.cells hv;have hxw:=bz.lt hv
 cases hf:ey l lab with
 | none =>
  rw[hf]at HFA;simp only[bQ]at HFA;go_enter Tryz.func68,Tryz.ntmps68;go_wp2_with fail;refine Calls.mono HFA.out ?_;rintro e w1 ⟨rfl,k1⟩;go_wp2;go_ret2;exact⟨rfl,k1⟩
 | some n =>
  rw[hf]at HFA;simp only[bQ]at HFA;have hn0:¬(n:Int)<0:=by omega
  go_enter Tryz.func68,Tryz.ntmps68;go_wp2_with fail;refine Calls.mono HFA.out ?_;rintro e w1 ⟨rfl,k1⟩;go_wp2;go_ret2;exact⟨rfl,k1⟩
def qS(l:List St)(lab:ByteArray)(w:World)(e:Ending)(w':World):Prop :=
 aa [] w w'/\match ey l lab with
  | some n=>∃g,e=.returned (.tuple #[.slice (some ⟨g,0,none⟩) (aM l n).length (aM l n).length,.int .i64 0])/\eQ w' g (aM l n) (aM l n).length/\w.heap.size<=g
  | none=>e=.returned (.tuple #[.slice none 0 0,.int .i64 8])
theorem tR{l:List St}{lab:ByteArray}{n:Nat}(h:ey l lab=some n):∃h:n<l.length,jt l[n].kind=true/\l[n].label.toList=lab.toList:=by
 unfold ey at h;have hm:=List.mem_range.1 (List.mem_of_find?_eq_some h);have hs:=List.find?_some h;rw[rz l lab n hm]at hs;simp only[Bool.and_eq_true]at hs;exact⟨hm,hs.2,by simpa using hs.1⟩
theorem xy(x:Nat)(fs:Fs)(l:List St)(H:Nat->Hd)(g:Nat)(lab:ByteArray)(w:World)(h:dP w x fs l H g)(ok:db l)(hz:tB l) :
  Calls Tryz.prog 48 #[.pointer (some ⟨x,0,none⟩),.string lab] w fun e w'=>qS l lab w e w':=by
 have hlen:=ok.len;have VF:=rS x fs l H g lab w h (by omega);have hxw:=bz.lt (Classical.choose_spec (Classical.choose_spec (Classical.choose_spec h.ver)));unfold qS
 cases hf:ey l lab with
 | none =>
  rw[hf]at VF;have HVF:=(show Hid _ from VF);clear VF;go_enter Tryz.func48,Tryz.ntmps48;go_wp2_with fail;refine Calls.mono HVF.out ?_;rintro e w1 ⟨rfl,k1⟩;go_wp2;go_ret2;exact⟨k1,rfl⟩
 | some n =>
  rw[hf]at VF;obtain⟨hn,ha,-⟩:=tR hf;have hk1:l[n].kind≠1:=by intro e;rw[e]at ha;revert ha;decide
  have HVF:=(show Hid _ from VF);clear VF;go_enter Tryz.func48,Tryz.ntmps48;go_wp2_with fail;refine Calls.mono HVF.out ?_;rintro e w1 ⟨rfl,k1⟩;have hr1:=(h.still k1).recd;have hx1:=hr1.lt;go_wp2_with fail;refine(wT x 10 n l H w1 hr1 hn ok hz hk1).mono ?_;rintro e w2 ⟨g2,rfl,h2,h3,k2⟩;have hs:=k1.size;go_wp2;go_ret2;exact⟨k1.trans k2,g2,rfl,h2,by omega⟩
theorem xx(x k:Nat)(fs:Fs)(nm t:ByteArray)(w:World)(h:bY w x fs)(hf:de fs nm=k)(hk:k<fs.length)(hk4:k<4)(hnm:bn fs k=nm)(hdt:aj fs k=t)(hsz:gO fs)(hni:fB t=false) :
    Calls Tryz.prog 13 #[.pointer (some ⟨x,0,none⟩),.string nm] w fun e w' =>
      (if((bU nm t 0 bh).1.1==0)=true then e=.returned (.tuple #[.agg #[.int .i64 0,.string ⟨#[]⟩,.int .i64 0,.int .i64 0],.int .i64 0])/\∃H g,dP w' x fs (bU nm t 0 bh).2.sts H g/\w.heap.size<=g/\∀k,cK H k->w.heap.size<=k
       else e=.returned (.tuple #[.agg #[.int .i64 (bU nm t 0 bh).1.1,.string nm,.int .i64 (aD t (bU nm t 0 bh).1.2),.int .i64 (bb t (bU nm t 0 bh).1.2)],.int .i64 6])/\fp w' x fs)/\aa [x] w w':=by
  have hs:(aj fs k).size<=1024:=hsz k hk;have hp:=ja fs k hk4 hs (by rw[hdt];exact pH t hni);rw[hnm,hdt]at hp;refine(qq x k fs nm w h hf hk hsz).mono ?_;rintro e w' ⟨hc,hK⟩;refine⟨?_,hK⟩;rw[hp]at hc;unfold oV at hc
  cases hr:((bU nm t 0 bh).1.1==0) with
  | true =>
    simp only[hr,if_true]at hc ⊢;rw[if_pos (by rfl)]at hc;exact hc
  | false =>
    simp only[hr,Bool.false_eq_true,if_false]at hc ⊢;exact hc
theorem vW{w w':World}(h:aa [w.heap.size] w w'):aa [] w w' :=
  ⟨h.os,h.tape,h.output,h.size,fun k hk _=>h.block k hk (by simp;omega)⟩
def Fi:Fs:=[(⟨#[109]⟩,⟨#[36,99,32,119,32,36,46,32,36,118,32,112,32,36,46,32,119,112,32,36,102,32,119,32,112,32,36,46,10,97,32,36,97,32,119,32,112,32,36,46,10,116,32,36,112,32,119,32,112,32,36,61,32,119,112,32,97,32,36,46,32,117,32,36,112,32,119,32,112,32,36,61,32,119,112,32,36,46,32,118,32,36,112,32,119,32,112,32,36,61,32,63,32,36,46]⟩)]
theorem zn:g7 [] ⟨#[109]⟩ ⟨#[36,99,32,119,32,36,46,32,36,118,32,112,32,36,46,32,119,112,32,36,102,32,119,32,112,32,36,46,10,97,32,36,97,32,119,32,112,32,36,46,10,116,32,36,112,32,119,32,112,32,36,61,32,119,112,32,97,32,36,46,32,117,32,36,112,32,119,32,112,32,36,61,32,119,112,32,36,46,32,118,32,36,112,32,119,32,112,32,36,61,32,63,32,36,46]⟩=(0,Fi):=by decide +kernel
theorem wl:(bU ⟨#[109]⟩ ⟨#[36,99,32,119,32,36,46,32,36,118,32,112,32,36,46,32,119,112,32,36,102,32,119,32,112,32,36,46,10,97,32,36,97,32,119,32,112,32,36,46,10,116,32,36,112,32,119,32,112,32,36,61,32,119,112,32,97,32,36,46,32,117,32,36,112,32,119,32,112,32,36,61,32,119,112,32,36,46,32,118,32,36,112,32,119,32,112,32,36,61,32,63,32,36,46]⟩ 0 bh).1=(0,0):=by decide +kernel
theorem wm:(bj ⟨#[36,99,32,119,32,36,46,32,36,118,32,112,32,36,46,32,119,112,32,36,102,32,119,32,112,32,36,46,10,97,32,36,97,32,119,32,112,32,36,46,10,116,32,36,112,32,119,32,112,32,36,61,32,119,112,32,97,32,36,46,32,117,32,36,112,32,119,32,112,32,36,61,32,119,112,32,36,46,32,118,32,36,112,32,119,32,112,32,36,61,32,63,32,36,46]⟩).map (fun r=>(r.verdict,r.label.toList))=[(1,[97]),(5,[116]),(5,[117]),(3,[118])]:=by decide +kernel
theorem Fj:gO Fi:=by
 rw[kc];intro f hf;simp only[Fi,List.mem_cons,List.not_mem_nil,or_false]at hf;subst hf;decide
theorem wk:∃a b c d,bj ⟨#[36,99,32,119,32,36,46,32,36,118,32,112,32,36,46,32,119,112,32,36,102,32,119,32,112,32,36,46,10,97,32,36,97,32,119,32,112,32,36,46,10,116,32,36,112,32,119,32,112,32,36,61,32,119,112,32,97,32,36,46,32,117,32,36,112,32,119,32,112,32,36,61,32,119,112,32,36,46,32,118,32,36,112,32,119,32,112,32,36,61,32,63,32,36,46]⟩=[a,b,c,d]/\a.verdict=1/\b.verdict=5/\c.verdict=5/\d.verdict=3/\(b.label.toList == [116])=true:=by
 have h:=wm;generalize bj ⟨#[36,99,32,119,32,36,46,32,36,118,32,112,32,36,46,32,119,112,32,36,102,32,119,32,112,32,36,46,10,97,32,36,97,32,119,32,112,32,36,46,10,116,32,36,112,32,119,32,112,32,36,61,32,119,112,32,97,32,36,46,32,117,32,36,112,32,119,32,112,32,36,61,32,119,112,32,36,46,32,118,32,36,112,32,119,32,112,32,36,61,32,63,32,36,46]⟩=L at h;have hl:L.length=4:=by have:=congrArg List.length h;simpa using this
 match L,hl,h with
 | [a,b,c,d],_,h =>
  simp only[List.map_cons,List.map_nil,List.cons.injEq,Prod.mk.injEq,and_true]at h;obtain⟨⟨h1,-⟩,⟨h2,h3⟩,⟨h4,-⟩,h5,-⟩:=h;exact⟨a,b,c,d,rfl,h1,h2,h4,h5,by rw[h3];rfl⟩
set_option maxRecDepth 100000 in
theorem wn(w:World):Calls Tryz.prog 6 #[] w fun e w'=>e=.returned (.bool true)/\aa [] w w':=by
 have VM:∀(w':World) (x:Nat),bY w' x Fi->Calls Tryz.prog 13 #[.pointer (some ⟨x,0,none⟩),.string ⟨#[109]⟩] w' fun e w''=>e=.returned (.tuple #[.agg #[.int .i64 0,.string ⟨#[]⟩,.int .i64 0,.int .i64 0],.int .i64 0])/\(∃H g,dP w'' x Fi (bC ⟨#[36,99,32,119,32,36,46,32,36,118,32,112,32,36,46,32,119,112,32,36,102,32,119,32,112,32,36,46,10,97,32,36,97,32,119,32,112,32,36,46,10,116,32,36,112,32,119,32,112,32,36,61,32,119,112,32,97,32,36,46,32,117,32,36,112,32,119,32,112,32,36,61,32,119,112,32,36,46,32,118,32,36,112,32,119,32,112,32,36,61,32,63,32,36,46]⟩).2.sts H g)/\aa [x] w' w'':=by
  intro w' x h;refine(xx x 0 Fi ⟨#[109]⟩ ⟨#[36,99,32,119,32,36,46,32,36,118,32,112,32,36,46,32,119,112,32,36,102,32,119,32,112,32,36,46,10,97,32,36,97,32,119,32,112,32,36,46,10,116,32,36,112,32,119,32,112,32,36,61,32,119,112,32,97,32,36,46,32,117,32,36,112,32,119,32,112,32,36,61,32,119,112,32,36,46,32,118,32,36,112,32,119,32,112,32,36,61,32,63,32,36,46]⟩ w' h (by decide +kernel) (by decide) (by decide) rfl rfl Fj (by decide +kernel)).mono ?_;rintro e w'' ⟨hc,hK⟩;rw[wl,if_pos (by rfl)]at hc;obtain⟨h1,H,g,h2,-⟩:=hc;exact⟨h1,⟨H,g,h2⟩,hK⟩
 have HVM:=(show Hid _ from VM);clear VM;have HG:=(show Hid _ from iW ⟨#[36,99,32,119,32,36,46,32,36,118,32,112,32,36,46,32,119,112,32,36,102,32,119,32,112,32,36,46,10,97,32,36,97,32,119,32,112,32,36,46,10,116,32,36,112,32,119,32,112,32,36,61,32,119,112,32,97,32,36,46,32,117,32,36,112,32,119,32,112,32,36,61,32,119,112,32,36,46,32,118,32,36,112,32,119,32,112,32,36,61,32,63,32,36,46]⟩ (by decide) (by decide +kernel));go_enter Tryz.func6,Tryz.ntmps6;go_wp2_with fail;refine(yl _).mono ?_;rintro e w1 ⟨rfl,hV1,hk1⟩;go_wp2_with fail;refine(qr w.heap.size ⟨#[109]⟩ ⟨#[36,99,32,119,32,36,46,32,36,118,32,112,32,36,46,32,119,112,32,36,102,32,119,32,112,32,36,46,10,97,32,36,97,32,119,32,112,32,36,46,10,116,32,36,112,32,119,32,112,32,36,61,32,119,112,32,97,32,36,46,32,117,32,36,112,32,119,32,112,32,36,61,32,119,112,32,36,46,32,118,32,36,112,32,119,32,112,32,36,61,32,63,32,36,46]⟩ [] _ hV1.anyR (by decide) (by decide)).mono ?_;rintro e w2 ⟨rfl,hV2,-,hk2⟩;rw[zn]at hV2 ⊢;go_wp2_with fail;refine Calls.mono (HVM.out _ _ hV2) ?_;rintro e w4 ⟨rfl,⟨H,g,hV4⟩,hk4⟩;have hkk:aa [w.heap.size] w w4:=((hk1.mono (by simp)).trans hk2).trans hk4;go_wp2_with fail;refine(rT w.heap.size Fi _ H g _ hV4 HG.out.ok.len).mono ?_;rintro e w5 ⟨ob,rfl,hO5,-,hk5⟩;obtain⟨ra,rb,rc,rd,hL,v1,v2,v3,v4,v5⟩:=wk;have er:eY (bC ⟨#[36,99,32,119,32,36,46,32,36,118,32,112,32,36,46,32,119,112,32,36,102,32,119,32,112,32,36,46,10,97,32,36,97,32,119,32,112,32,36,46,10,116,32,36,112,32,119,32,112,32,36,61,32,119,112,32,97,32,36,46,32,117,32,36,112,32,119,32,112,32,36,61,32,119,112,32,36,46,32,118,32,36,112,32,119,32,112,32,36,61,32,63,32,36,46]⟩).2.sts=[ra,rb,rc,rd]:=hL;rw[er]at hO5 ⊢
 cases ob with
 | none=>exact absurd (show [ra,rb,rc,rd]=[] from hO5) (by simp)
 | some g5 =>
  have c0:=(ly hO5.2 (fun j v hj=>by simpa using hj) 0 (by simp)).2.1;have c1:=(ly hO5.2 (fun j v hj=>by simpa using hj) 1 (by simp)).2.1;have c2:=(ly hO5.2 (fun j v hj=>by simpa using hj) 2 (by simp)).2.1;have c3:=(ly hO5.2 (fun j v hj=>by simpa using hj) 3 (by simp)).2.1;have c4:=(ly hO5.2 (fun j v hj=>by simpa using hj) 1 (by simp)).1;simp only[List.getElem_cons_zero,List.getElem_cons_succ,v1,v2,v3,v4,Nat.zero_mul,Nat.zero_add,Nat.one_mul,Nat.reduceMul,Nat.reduceAdd]at c0 c1 c2 c3 c4;simp only[dn,List.length_cons,List.length_nil,Nat.zero_add,Nat.reduceAdd];clear hL er hO5;go_wp2;go_ret;exact⟨rfl,vW (hkk.trans (hk5.mono (by simp)))⟩
theorem ue{l m:List ByteArray}{x:ByteArray}(h:aZ l x=true):aZ (l++m) x=true:=by
 unfold aZ at h ⊢;rw[List.any_append,h];rfl
theorem BS(l:List ByteArray)(x:ByteArray):aZ (l++[x]) x=true:=by
 unfold aZ;rw[List.any_append];simp
theorem zh{l:List ByteArray}{x y:ByteArray}(e:(x.toList==y.toList)=true)(h:aZ l x=true):aZ l y=true:=by
 have e':x.toList=y.toList:=by simpa using e
 unfold aZ at h ⊢;rw[<-e'];exact h
structure n6(P:ByteArray->Prop)(L C:List ByteArray)(s:St):Prop where
 kind:s.kind=1∨(2<=s.kind/\s.kind<=5)
 syms:∀x∈s.symbols,P x
 lab:(2<=s.kind/\s.kind<=5)->P s.label/\iz s.label=true/\aZ L s.label=true
 code:(2<=s.kind/\s.kind<=5)->∃c r,s.symbols=c :: r/\aZ C c=true
 two:s.kind=2->s.symbols.length=2
theorem n6.mono{P:ByteArray->Prop}{L C:List ByteArray}{s:St}(h:n6 P L C s)(L' C':List ByteArray)(hL:∀x,aZ L x=true->aZ L' x=true)(hC:∀x,aZ C x=true->aZ C' x=true):n6 P L' C' s :=
 ⟨h.kind,h.syms,fun k=>⟨(h.lab k).1,(h.lab k).2.1,hL _ (h.lab k).2.2⟩,fun k=>by obtain⟨c,r,e1,e2⟩:=h.code k;exact⟨c,r,e1,hC _ e2⟩,h.two⟩
theorem n6.til{P:ByteArray->Prop}{L C:List ByteArray}{s:St}(h:n6 P L C s)(n:Nat):n6 P L C { s with til:=n }:=⟨h.kind,h.syms,h.lab,h.code,h.two⟩
def Bb(l:List St):Prop:=∀(i j:Nat) s t,i<j->l[i]?=some s->l[j]?=some t->s.kind≠1->t.kind≠1->(s.label.toList==t.label.toList)=false
structure Nm(P:ByteArray->Prop)(d:Db):Prop where
 lab:∀x∈d.labels,P x
 con:∀x∈d.constants,P x
 var:∀x∈d.variables,P x
 act:∀x∈d.active,P x
 typ:∀x∈d.typed,P x
 sym:∀x∈d.symbols,P x
 sts:∀s∈d.sts,n6 P d.labels d.constants s
 kind:0<=d.kind/\d.kind<=8
 here:(2<=d.kind/\d.kind<=6)->P d.label/\iz d.label=true/\aZ d.labels d.label=true/\∀s∈d.sts,s.kind≠1->(s.label.toList==d.label.toList)=false
 head:(2<=d.kind/\d.kind<=5)->∀c r,d.symbols=c :: r->aZ d.constants c=true
 two:d.kind=2->d.symbols.length<=2
 none:(d.kind=0∨d.kind=6)->d.symbols=[]
 diff:Bb d.sts
 prf:d.kind≠5->d.inProof=false
theorem iu(l:List St)(b i:Nat):(cr l b)[i]?=(l[i]?).map (fun s=>if b<=i/\i<l.length then eW l.length s else s):=by
 unfold cr cU;rw[List.getElem?_mapIdx]
theorem lH(N:Nat)(s:St):(eW N s).kind=s.kind/\(eW N s).label=s.label/\(eW N s).symbols=s.symbols:=by
 unfold eW;split <;> exact⟨rfl,rfl,rfl⟩
theorem ka{l:List St}{b i:Nat}{s:St}(h:(cr l b)[i]?=some s):∃s',l[i]?=some s'/\s.kind=s'.kind/\s.label=s'.label/\s.symbols=s'.symbols:=by
 rw[iu]at h
 cases hs:l[i]? with
 | none=>rw[hs]at h;cases h
 | some s' =>
  rw[hs]at h;simp only[Option.map_some,Option.some.injEq]at h;refine⟨s',rfl,?_⟩;subst h
  split
  ·exact lH _ _
  ·exact⟨rfl,rfl,rfl⟩
theorem yV{P:ByteArray->Prop}{L C:List ByteArray}{l:List St}(h:∀s∈l,n6 P L C s)(b:Nat):∀s∈cr l b,n6 P L C s:=by
 intro s hs;obtain⟨i,hi⟩:=List.getElem?_of_mem hs;obtain⟨s',h1,h2,h3,h4⟩:=ka hi;have k:=h s' (List.mem_of_getElem? h1);refine⟨?_,?_,?_,?_,?_⟩
 ·rw[h2];exact k.kind
 ·rw[h4];exact k.syms
 ·rw[h2,h3];exact k.lab
 ·rw[h2,h4];exact k.code
 ·rw[h2,h4];exact k.two
theorem vN{l:List St}(h:Bb l)(b:Nat):Bb (cr l b):=by
 intro i j s t hij hs ht k1 k2;obtain⟨s',a1,a2,a3,a4⟩:=ka hs;obtain⟨t',b1,b2,b3,b4⟩:=ka ht;rw[a3,b3];exact h i j s' t' hij a1 b1 (by rw[<-a2];exact k1) (by rw[<-b2];exact k2)
theorem Bz{l:List St}(h:Bb l)(u:St)(hu:u.kind≠1->∀s∈l,s.kind≠1->(s.label.toList==u.label.toList)=false):Bb (l++[u]):=by
 intro i j s t hij hs ht k1 k2;have hjl:j<(l++[u]).length:=(List.getElem?_eq_some_iff.1 ht).1;simp only[List.length_append,List.length_singleton]at hjl;rw[List.getElem?_append_left (by omega)]at hs
 by_cases hj:j<l.length
 ·rw[List.getElem?_append_left hj]at ht
  exact h i j s t hij hs ht k1 k2
 ·have e:j=l.length:=by omega
  subst e;simp at ht;subst ht;exact hu k2 s (List.mem_of_getElem? hs) k1
theorem yK{P:ByteArray->Prop}(l v:List ByteArray)(hv:∀x∈v,P x)(hl:∀x∈l,P x):∀x∈bK v l,P x:=by
 unfold bK
 induction l generalizing v with
 | nil=>exact hv
 | cons a l ih =>
  simp only[List.foldl_cons];refine ih _ ?_ (fun x hx=>hl x (List.mem_cons_of_mem _ hx))
  split
  ·exact hv
  ·intro x hx
   rcases List.mem_append.1 hx with hx | hx
   ·exact hv x hx
   ·rw[List.mem_singleton.1 hx];exact hl a (by simp)
theorem iC{P:ByteArray->Prop}{l:List ByteArray}(h:∀x∈l,P x)(n:Nat):∀x∈l.take n,P x:=fun x hx=>h x (List.mem_of_mem_take hx)
theorem lN{P:ByteArray->Prop}{l:List ByteArray}(h:∀x∈l,P x){y:ByteArray}(hy:P y):∀x∈l++[y],P x:=fun x hx=>by
 rcases List.mem_append.1 hx with hx | hx
 ·exact h x hx
 ·rw[List.mem_singleton.1 hx];exact hy
theorem ry{P:ByteArray->Prop}{l m:List ByteArray}(h:∀x∈l,P x)(h2:∀x∈m,P x):∀x∈l++m,P x:=fun x hx=>(List.mem_append.1 hx).elim (h x) (h2 x)
theorem Nm.label{P:ByteArray->Prop}{d:Db}(h:Nm P d)(x:ByteArray)(hx:dh x=false->P x)(h0:d.kind=0):Nm P (aX d x).2:=by
 unfold aX
 split
 ·exact h
 ·next hd =>
  split
  ·exact h
  ·next hl =>
   split
   ·exact h
   ·next ht =>
    have hP:=hx (by simpa using hd)
    have hnl:aZ d.labels x=false:=by
     unfold df at ht
     cases e:aZ d.labels x
     ·rfl
     ·rw[e]at ht;simp at ht
    refine⟨lN h.lab hP,h.con,h.var,h.act,h.typ,h.sym,fun s hs=>(h.sts s hs).mono _ _ (fun y hy=>ue hy) (fun y hy=>hy),by simp,?_,?_,?_,?_,h.diff,fun _=>h.prf (by omega)⟩
    ·intro _
     refine⟨hP,by simpa using hl,BS _ _,?_⟩;intro s hs hk
     cases e:(s.label.toList==x.toList)
     ·rfl
     ·have hso:=h.sts s hs
      have:=zh e ((hso.lab (hso.kind.resolve_left hk)).2.2);rw[hnl]at this;cases this
    ·intro hk;simp at hk
    ·intro hk;simp at hk
    ·intro _;exact h.none (Or.inl h0)
theorem Nm.first{P:ByteArray->Prop}{d:Db}(h:Nm P d)(x:ByteArray)(hx:dh x=false->P x)(h0:d.kind=0):Nm P (az d x).2:=by
 have hno:=h.none (Or.inl h0);unfold az
 split
 ·exact⟨h.lab,h.con,h.var,h.act,h.typ,h.sym,h.sts,h.kind,h.here,h.head,h.two,h.none,h.diff,h.prf⟩
 ·split
  ·split
   ·exact h
   ·unfold eV
    split
    ·exact⟨h.lab,h.con,h.var,iC h.act _,iC h.typ _,h.sym,h.sts,h.kind,h.here,h.head,h.two,h.none,h.diff,h.prf⟩
    ·refine⟨h.lab,h.con,h.var,iC h.act _,iC h.typ _,h.sym,yV h.sts _,h.kind,?_,h.head,h.two,h.none,vN h.diff _,h.prf⟩
     intro hk;have hk':2<=d.kind/\d.kind<=6:=hk;omega
  ·have mk:∀k:Int,0<=k/\k<=8->k=7∨k=8∨k=1->Nm P { d with kind:=k }:=by
    intro k hk hk2;refine⟨h.lab,h.con,h.var,h.act,h.typ,h.sym,h.sts,hk,?_,?_,?_,?_,h.diff,fun _=>h.prf (by omega)⟩
    ·intro (hh:2<=k/\k<=6);omega
    ·intro (hh:2<=k/\k<=5);omega
    ·intro (hh:k=2);omega
    ·intro _;exact hno
   split
   ·split
    ·exact h
    ·exact mk 7 (by omega) (by omega)
   ·split
    ·exact mk 8 (by omega) (by omega)
    ·split
     ·exact mk 1 (by omega) (by omega)
     ·split
      ·exact h
      ·exact h.label x hx h0
theorem Nm.keyword{P:ByteArray->Prop}{d:Db}(h:Nm P d)(x:ByteArray)(h6:d.kind=6):Nm P (aG d x).2:=by
 have hno:=h.none (Or.inr h6)
 have mk:∀k:Int,2<=k/\k<=5->Nm P { d with kind:=k }:=by
  intro k hk;refine⟨h.lab,h.con,h.var,h.act,h.typ,h.sym,h.sts,⟨by show 0<=k;omega,by show k<=8;omega⟩,?_,?_,?_,?_,h.diff,fun _=>h.prf (by omega)⟩
  ·intro _;exact h.here (by omega)
  ·intro _ c r hc
   have hc':d.symbols=c :: r:=hc;rw[hno]at hc';cases hc'
  ·intro _;show d.symbols.length<=2;rw[hno];simp
  ·intro (hh:k=0∨k=6);omega
 unfold aG
 split
 ·exact mk 2 (by omega)
 ·split
  ·exact mk 3 (by omega)
  ·split
   ·exact mk 4 (by omega)
   ·split
    ·exact mk 5 (by omega)
    ·exact h
theorem Nm.done{P:ByteArray->Prop}{d:Db}(hl:∀x∈d.labels,P x)(hc:∀x∈d.constants,P x)(hv:∀x∈d.variables,P x)(ha:∀x∈d.active,P x)(ht:∀x∈d.typed,P x)(hs:∀s∈d.sts,n6 P d.labels d.constants s)(hd:Bb d.sts)(k:Int)(hk:k=0)(b:ByteArray)(pr:List (ByteArray×Pl)) :
  Nm P { d with kind:=k,label:=b,symbols:=[],inProof:=false,proof:=pr }:=by
 subst hk;exact⟨hl,hc,hv,ha,ht,fun x hx=>by simp at hx,hs,by simp,fun h=>by simp at h,fun h=>by simp at h,fun h=>by simp at h,fun _=>rfl,hd,fun _=>rfl⟩
theorem zg(l:List ByteArray)(h:1<l.length):l.getD 1 ⟨#[]⟩∈l:=by
 rw[List.getD_eq_getElem?_getD,List.getElem?_eq_getElem h];exact List.getElem_mem h
theorem Nm.fin{P:ByteArray->Prop}{d:Db}(h:Nm P d)(p:Pl)(h0:d.kind≠0)(h6:d.kind≠6):Nm P (iK d p).2:=by
 have hk:=h.kind;unfold iK
 split
 ·exact h
 ·next hle =>
  split
  ·exact h
  ·unfold bX
   split
   ·exact Nm.done (d:={ d with constants:=d.constants++d.symbols }) h.lab (ry h.con h.sym) h.var h.act h.typ (fun s hs=>(h.sts s hs).mono _ _ (fun y hy=>hy) (fun y hy=>ue hy)) h.diff 0 rfl _ _
   ·split
    ·exact Nm.done (d:=da d d.symbols.length) h.lab h.con (yK _ _ h.var (iC h.sym _)) (ry h.act h.sym) h.typ h.sts h.diff 0 rfl _ _
    ·next h7 h8 =>
     have hk5:d.kind=1∨(2<=d.kind/\d.kind<=5):=by
      have a7:d.kind≠7:=by simpa using h7
      have a8:d.kind≠8:=by simpa using h8
      omega
     have hlen:dX d<=d.symbols.length:=by omega
     have hnew:n6 P d.labels d.constants ⟨d.kind,d.label,d.symbols,d.proof,p,0⟩:=by
      refine⟨hk5,h.sym,?_,?_,?_⟩
      ·intro (hh:2<=d.kind/\d.kind<=5)
       have hr:=h.here (by omega);exact⟨hr.1,hr.2.1,hr.2.2.1⟩
      ·intro (hh:2<=d.kind/\d.kind<=5)
       have h1:1<=dX d:=by unfold dX;split <;> omega
       cases hsy:d.symbols with
       | nil=>rw[hsy]at hlen;simp at hlen;omega
       | cons c r=>exact⟨c,r,rfl,h.head hh c r hsy⟩
      ·intro (hh:d.kind=2)
       have h2:dX d=2:=by unfold dX;rw[if_pos (Or.inr (by rw[hh];rfl))]
       have:=h.two hh
       show d.symbols.length=2
       omega
     have hsts:∀s∈d.sts++[⟨d.kind,d.label,d.symbols,d.proof,p,0⟩],n6 P d.labels d.constants s:=by
      intro s hs
      rcases List.mem_append.1 hs with hs | hs
      ·exact h.sts s hs
      ·rw[List.mem_singleton.1 hs];exact hnew
     have hdif:Bb (d.sts++[⟨d.kind,d.label,d.symbols,d.proof,p,0⟩]):=by
      refine Bz h.diff _ ?_;intro (hh:d.kind≠1) s hs hs1;exact(h.here (by omega)).2.2.2 s hs hs1
     unfold cZ tD
     split
     ·next ht=>exact Nm.done (d:={ d with typed:=d.typed++[d.symbols.getD 1 ⟨#[]⟩],sts:=d.sts++[⟨d.kind,d.label,d.symbols,d.proof,p,0⟩] }) h.lab h.con h.var h.act (lN h.typ (h.sym _ (zg _ ht.2))) hsts hdif 0 rfl _ _
     ·exact Nm.done (d:={ d with sts:=d.sts++[⟨d.kind,d.label,d.symbols,d.proof,p,0⟩] }) h.lab h.con h.var h.act h.typ hsts hdif 0 rfl _ _
theorem Nm.take{P:ByteArray->Prop}{d:Db}(h:Nm P d)(x:ByteArray)(p:Pl)(hx:dh x=false->P x):Nm P (aS d x p).2:=by
 unfold aS
 split
 ·next h0=>exact h.first x hx (by simpa using h0)
 ·next h0 =>
  split
  ·next h6=>exact h.keyword x (by simpa using h6)
  ·next h6 =>
   have h0':d.kind≠0:=by simpa using h0
   have h6':d.kind≠6:=by simpa using h6
   split
   ·exact h.fin p h0' h6'
   ·split
    ·unfold bF
     split
     ·exact h
     ·next hb _=>exact⟨h.lab,h.con,h.var,h.act,h.typ,h.sym,h.sts,h.kind,h.here,h.head,h.two,h.none,h.diff,fun hk=>absurd (show d.kind=5 by simpa using hb.2.1) hk⟩
    ·split
     ·exact h
     ·next hd =>
      split
      ·exact⟨h.lab,h.con,h.var,h.act,h.typ,h.sym,h.sts,h.kind,h.here,h.head,h.two,h.none,h.diff,h.prf⟩
      ·split
       ·next hc =>
        have hc0:aJ d x=0:=by simpa using hc
        refine⟨h.lab,h.con,h.var,h.act,h.typ,lN h.sym (hx (by simpa using hd)),h.sts,h.kind,h.here,?_,?_,?_,h.diff,h.prf⟩
        ·intro (hk:2<=d.kind/\d.kind<=5) c r (he:d.symbols++[x]=c :: r)
         cases hs:d.symbols with
         | nil =>
          rw[hs]at he;simp at he;obtain⟨rfl,-⟩:=he;unfold aJ at hc0;rw[if_neg (by simp;omega),if_neg (by simp;omega),if_neg (by simp;omega),if_pos (by rw[hs];rfl)]at hc0;unfold dA at hc0
          cases e:aZ d.constants x
          ·rw[e]at hc0;simp at hc0
          ·rfl
         | cons c' r' =>
          rw[hs]at he;simp at he;rw[<-he.1];exact h.head hk c' r' hs
        ·intro (hk:d.kind=2)
         show(d.symbols++[x]).length<=2
         rw[List.length_append]
         by_cases hz:d.symbols.length=0
         ·rw[hz];simp
         ·unfold aJ at hc0
          rw[if_neg (by simp;omega),if_neg (by simp;omega),if_neg (by simp;omega),if_neg hz,if_pos (by simp;omega)]at hc0;unfold dz at hc0
          by_cases hl:1<d.symbols.length
          ·rw[if_pos hl]at hc0;simp at hc0
          ·simp;omega
        ·intro (hk:d.kind=0∨d.kind=6);omega
       ·exact h
theorem Nm.empty{P:ByteArray->Prop}:Nm P bh:=by
 refine⟨?_,?_,?_,?_,?_,?_,?_,?_,?_,?_,?_,fun _=>rfl,?_,fun _=>rfl⟩ <;> simp[bh,Bb]
theorem rJ{P:ByteArray->Prop}(n s:ByteArray)(hP:∀k,k<=s.size->aA (ak s k).1=true->dh (ak s k).1.text=false->P (ak s k).1.text)(f:Nat):∀k d,k<=s.size->Nm P d->Nm P (dl n s f k d).2:=by
 induction f with
 | zero=>intro k d _ h;exact h
 | succ f ih =>
  intro k d hk h;have hl:=cT s k hk;rw[dl]
  split
  ·next hw =>
   split
   ·exact ih _ _ hl.2.1 (h.take _ _ (hP k hk hw))
   ·exact h.take _ _ (hP k hk hw)
  ·split
   ·split <;> exact h
   ·exact h
def Wd(x:ByteArray):Prop:=0<x.size/\∀i,i<x.size->gx (aw x i)=true/\aw x i≠36
theorem tn(d:ByteArray)(f:Nat):∀k i,k<=i->i<iG d f k->gx (aw d i)=true:=by
 induction f with
 | zero=>intro k i h1 h2;simp[iG]at h2;omega
 | succ f ih =>
  intro k i h1 h2;rw[iG]at h2
  split at h2
  ·next hc =>
   by_cases e:i=k
   ·subst e;exact hc.2.2
   ·exact ih (k+1) i (by omega) h2
  ·omega
theorem wZ(d:ByteArray)(k:Nat)(hk:k<=d.size)(h:aA (aH d k).1=true):0<(aH d k).1.text.size/\∀i,i<(aH d k).1.text.size->gx (aw (aH d k).1.text i)=true:=by
 unfold aH at h ⊢;simp only at h ⊢;have h1:=iY d k hk;have h2:=fR d (skip d k) h1.2
 split
 ·next hb=>rw[if_pos hb]at h;simp[aA]at h
 ·next hb =>
  rw[if_neg hb]at h
  split
  ·next hz=>rw[if_pos hz]at h;simp[aA]at h
  ·next hz =>
   have hsz:(d.extract (skip d k) (aW d (skip d k))).size=aW d (skip d k)-skip d k:=by
    rw[ByteArray.size_extract];omega
   simp only;rw[hsz];refine⟨by omega,?_⟩;intro i hi
   have hbe:aw (d.extract (skip d k) (aW d (skip d k))) i=aw d (skip d k+i):=by
    rw[aU _ i (by rw[hsz];exact hi),aU d (skip d k+i) (by omega),ByteArray.getElem_extract]
   rw[hbe];exact tn d (d.size-skip d k) (skip d k) _ (by omega) (show skip d k+i<aW d (skip d k) by omega)
theorem zG(d:ByteArray)(k:Nat)(hk:k<=d.size)(h:aA (ak d k).1=true):∃j,j<=d.size/\ak d k=aH d j:=by
 unfold ak at h ⊢;generalize d.size-k+1=f at h ⊢
 induction f generalizing k with
 | zero=>simp[cn,aA]at h
 | succ f ih =>
  have rl:=dR d k hk;have cl:=dJ d (aH d k).2 rl.2.1;rw[cn]at h ⊢
  split at h
  ·next h1 =>
   rw[if_pos h1]
   split at h
   ·next h2=>rw[if_pos h2];exact ih _ cl.2 h
   ·next h2=>exact absurd h h2
  ·next h1=>rw[if_neg h1];exact⟨k,hk,rfl⟩
theorem pE(d:ByteArray)(k:Nat)(hk:k<=d.size)(h:aA (ak d k).1=true)(hd:dh (ak d k).1.text=false):Wd (ak d k).1.text:=by
 obtain⟨j,hj,e⟩:=zG d k hk h;rw[e]at h hd ⊢;have hp:=wZ d j hj h;refine⟨hp.1,fun i hi=>⟨hp.2 i hi,?_⟩⟩;intro h36;unfold dh at hd;rw[List.any_eq_false]at hd;exact hd i (List.mem_range.2 hi) (by simp[h36])
theorem pQ(T:ByteArray):Nm Wd (bC T).2:=rJ _ T (fun k hk h hd=>pE T k hk h hd) _ 0 _ (Nat.zero_le _) Nm.empty
theorem Wd.notKey{x:ByteArray}(h:Wd x)(c:UInt8):(x.toList == [36,c])=false:=by
 cases e:(x.toList == [36,c])
 ·rfl
 ·obtain⟨h1,h2,-⟩:=Az x c e
  exact absurd h2 (h.2 0 h.1).2
end Go.Proofs.YtlbhbocbakijbaaGreat

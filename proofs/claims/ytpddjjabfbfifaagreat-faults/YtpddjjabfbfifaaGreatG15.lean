import Derived.Test.YtpddjjabfbfifaaGreatG14
namespace Go.Proofs.YtpddjjabfbfifaaGreat
open Go.RowKit
set_option maxHeartbeats 40000000
def iK(vs:List ByteArray)(bs:List (List ByteArray))(k n:Nat):List Nat:=if n<k then jB vs (bs.getD n []) else []
theorem gn.congr{w:World}{g N:Nat}{F F':Nat->List Nat}{K:Nat->Hd}(h:gn w g N F K)(e:∀n,n<N->F n=F' n):gn w g N F' K:=by
 obtain⟨arr,h1,h2,h3⟩:=h.arr;exact⟨⟨arr,h1,h2,fun n hn=>by rw[<-e n hn];exact h3 n hn⟩,fun n hn=>by rw[<-e n hn];exact h.own n hn,h.off⟩
set_option maxRecDepth 100000 in
theorem Cd(b rb ro g n tb:Nat)(vs:List ByteArray)(ms:List Bool)(hv hm hl:Hd)(be:List Ex)(w:World)(hp:uX w b rb ro g n tb)(h:jC w tb vs ms hv hm)(hvl:vs.length<=10000)
  (ho:aA w hl (fn be)) (hbl:be.length<=10000) (hex:∀e∈be,jh w e.hd e.xs/\e.xs.length<=10000) :
  Calls Tryz.prog 276 #[.pointer (some ⟨b,0,none⟩),.slice hl.ao be.length hl.cap] w fun e w'=>∃(g':Nat) (K:Nat->Hd),e=.returned (.slice (some ⟨g',0,none⟩) be.length be.length)/\gn w' g' be.length (iK vs (be.map Ex.xs) be.length) K/\ab [] w w':=by
 obtain⟨i0,hi,hz0,hz1,hz2⟩:=info_parts J4;have m1:=fun w=>dn (P:=Tryz.prog) w 181 26 i0 _ Tryz.underlying181 hi hz0 be.length 1 hz1 (by rw[hz2];omega) (by omega)
 obtain⟨mc,hmc⟩:∃mc,mc=madeCells (Value.slice none 0 0).cells (be.length*1):=⟨_,rfl⟩
 rw[<-hmc]at m1
 have A0:Hid (gn (w.alloc (.cells mc 26)) w.heap.size be.length (iK vs (be.map Ex.xs) 0) ln):=by
  refine⟨⟨mc,heap_alloc_new _ _,by rw[hmc,size_madeCells];omega,?_⟩,?_,fun n _ e=>by simp[ln,Hd.blk]at e⟩
  ·intro n hn
   have e:iK vs (be.map Ex.xs) 0 n=[]:=by unfold iK;rw[if_neg (by omega)]
   rw[e,hmc];exact xo _ _ _ (by omega)
  ·intro n hn
   have e:iK vs (be.map Ex.xs) 0 n=[]:=by unfold iK;rw[if_neg (by omega)]
   rw[e];exact World.ownsRow_nil _ _ _ _
 clear hmc;go_enter Tryz.func276,Tryz.ntmps276;go_wp2
 go_loopg [6] be.length (fun gk i wr=>∃(k:Nat) (K:Nat->Hd),k<=be.length/\gk=be.length-k/\i=.int .i64 k/\gn wr w.heap.size be.length (iK vs (be.map Ex.xs) k) K/\ab [] w wr)
 case atStart=>exact⟨0,ln,by omega,by omega,rfl,A0.out,(ab.refl _ _).alloc _⟩
 case round =>
  obtain⟨k,K,hk,hg,rfl,hA,hK⟩:=hrel;clear A0 m1
  by_cases hlt:k<be.length
  ·rcases ho.ways with ⟨_,h0,_⟩ | ⟨gb,curb,eb,-,eb3,-⟩
   ·have:be.length=0:=h0
    omega
   have hob:aA wr hl (fn be):=ho.moved (fun x hx=>hK.block x (ho.lt hx) (by simp));have cb:=hob.cell eb k (tF be[k]) (pR be k hlt);have hcp:be.length<=hl.cap:=eb3;obtain⟨hvk,hxk⟩:=hex be[k] (List.getElem_mem hlt);have PO:=t7 b rb ro g n tb vs ms hv hm be[k].hd be[k].xs wr (hp.still hK) (h.still hK) (by omega) (hvk.still hK) (by omega)
   have HNX:Hid (∀n,n<be.length->BZ (iK vs (be.map Ex.xs) k) k (jB vs be[k].xs) n=iK vs (be.map Ex.xs) (k+1) n):=by
    intro n hn;unfold BZ iK
    by_cases e:n=k
    ·subst e;simp[hlt]
    ·rw[if_neg e]
     by_cases e2:n<k
     ·rw[if_pos e2,if_pos (by omega)]
     ·rw[if_neg e2,if_neg (by omega)]
   unfold tF at cb;obtain⟨ao,cap⟩:=hl;simp only at eb;subst eb;have hgw:=hA.lt;clear hob;generalize be[k]=ex at *;go_wp2_with fail;refine PO.mono ?_;rintro e w2 ⟨hd,rfl,o2,n2,k2⟩;have hA2:=hA.still k2;have c2:=hA2.cell k hlt;have f2:=hA2.free;have ST:=(show Hid _ from(hA2.store (k:=k) (jB vs ex.xs) hd o2 (fun e=>by have:=n2 _ e;omega)).congr HNX.out);have hKw:=hK.size;have hK2:=(hK.trans k2);have HK3:Hid (∀v,ab [] w (w2.setCell ⟨w.heap.size,k,none⟩ v)):=fun v=>hK2.setCell (Or.inr (Nat.le_refl _)) v
   go_wp2
   go_roundg (be.length-(k+1))
   case measure=>omega
   case rel=>exact⟨k+1,_,by omega,rfl,by go_num,ST.out,HK3.out _⟩
  ·have e:k=be.length:=by omega
   subst e;go_wp2;go_ret;exact⟨_,K,rfl,hA,hK⟩
def oM(l:List St)(a:Nat)(S:List ByteArray×List (List ByteArray))(vs:List ByteArray)(ms:List Bool)(i j:Nat):Bool :=
 !(gQ S.1.length (jT l a S.1) i j)||uZ vs.length ms (jB vs (S.2.getD i [])) (jB vs (S.2.getD j []))
def yU(l:List St)(a:Nat)(S:List ByteArray×List (List ByteArray))(vs:List ByteArray)(ms:List Bool):Bool :=
 decide (∀i,i<S.1.length->∀j,j<S.1.length->i<j->oM l a S vs ms i j=true)
set_option maxRecDepth 100000 in
theorem tW(b rb ro g n tb a sb:Nat)(l:List St)(HR:Nat->Hd)(vs:List ByteArray)(ms:List Bool)(hv hm:Hd)(us:List ByteArray)(be:List Ex)(H:Nat->Hd)(w:World)(hp:uX w b rb ro g n tb)(h:jC w tb vs ms hv hm)(hml:ms.length=vs.length*vs.length)(hvl:vs.length<=10000)
  (hr:eu w rb ro l HR) (ok:jH l) (hs:kI w sb us be H) (hul:us.length<=10000) (hxl:∀e∈be,e.xs.length<=10000) :
  Calls Tryz.prog 273 #[.pointer (some ⟨b,0,none⟩),.int .i64 a,.pointer (some ⟨sb,0,none⟩)] w fun e w'=>e=.returned (.bool (yU l a (us,be.map Ex.xs) vs ms))/\ab [] w w':=by
 obtain⟨p0,p1,p2⟩:=hp.cells;obtain⟨s0,s1⟩:=hs.cells;have HLE:Hid (be.length=us.length):=hs.len;have hbl:be.length<=10000:=by rw[HLE.out];exact hul
 obtain⟨R,HR'⟩:∃R,Hid (R=yU l a (us,be.map Ex.xs) vs ms):=⟨_,rfl⟩
 rw[<-HR'.out];have HO0:∀w1,ab [] w w1->aA w1 (H 0) (aD us):=fun w1 k1=>(hs.still k1).bag.own 0
 have HO1:∀w1,ab [] w w1->aA w1 (H 1) (fn be):=fun w1 k1=>(hs.still k1).bag.own 1
 have HAT:=(show Hid _ from fun w1 (k1:ab [] w w1)=>FI rb ro a l HR (H 0) us w1 (hr.still k1) ok (HO0 w1 k1) hul)
 have HC:Hid (∀w',ab [] w.drew w'->w'.cell? ⟨b,0,none⟩=some (.pointer (some ⟨rb,ro,none⟩))/\w'.cell? ⟨sb,0,none⟩=some (.slice (H 0).ao us.length (H 0).cap)):=by
  intro w' k;exact⟨(hp.still ((ab.refl [] w).drew.trans k)).cells.1,(hs.still ((ab.refl [] w).drew.trans k)).cells.1⟩
 have hsb:=hs.bag.lt;go_enter Tryz.func273,Tryz.ntmps273
 go_upto_region 1 with fail
 go_region_held3 (fun w'=>w'.cell? ⟨b,0,none⟩=some (.pointer (some ⟨rb,ro,none⟩))/\w'.cell? ⟨sb,0,none⟩=some (.slice (H 0).ao us.length (H 0).cap)) (go_keep) (first | (go_at_call 209;refine(HAT.out _ (by exact(ab.refl [] _).drew)).mono ?_;rintro e w1 ⟨tb2,hv2,hm2,rfl,A2,-,-,k1⟩;obtain⟨x0,x1⟩:=HC.out w1 k1))
 have K1:=(ab.refl [] w).drew.trans k1;have hs1:=hs.still K1;obtain⟨y0,y1⟩:=hs1.cells;have WI:=Cd b rb ro g n tb vs ms hv hm (H 1) be w1 (hp.still K1) (h.still K1) hvl (HO1 w1 K1) hbl (fun e he=>⟨(hs1.exs e he).view,hxl e he⟩);have hml2:=lI l a us l.length;go_wp2_with fail;refine WI.mono ?_;rintro e w2 ⟨g2,K,rfl,G2,k2⟩;have A2':=A2.still k2;have K2:=K1.trans k2;have hp2:=hp.still K2;have h2:=h.still K2
 have HT:Hid (R=true ↔ ∀i,i<be.length->∀j,j<be.length->i<j->oM l a (us,be.map Ex.xs) vs ms i j=true):=by
  show _ ↔ _
  rw[HR'.out,HLE.out];unfold yU;rw[decide_eq_true_iff]
 have HIN:Hid (∀n,∀x∈iK vs (be.map Ex.xs) be.length n,x<vs.length):=by
  intro n x hx;unfold iK at hx
  split at hx
  ·exact Fi hx
  ·cases hx
 have HLN:Hid (∀n,n<be.length->(iK vs (be.map Ex.xs) be.length n).length<=10000):=by
  intro n hn;unfold iK;rw[if_pos hn];refine Nat.le_trans (Ce _ _) ?_;rw[List.getD_eq_getElem?_getD];simp[hn];exact hxl _ (List.getElem_mem hn)
 have HKP:Hid (∀i j,i<be.length->j<be.length->oM l a (us,be.map Ex.xs) vs ms i j=(!(gQ us.length (jT l a us) i j)||uZ vs.length ms (iK vs (be.map Ex.xs) be.length i) (iK vs (be.map Ex.xs) be.length j))):=by
  intro i j hi hj;unfold oM iK;rw[if_pos hi,if_pos hj]
 clear WI HO0 HO1 HAT HC y0 y1 p0 p1 p2 s0 s1 x0 x1;go_wp2
 go_loopg [9] be.length (fun gk iv wr=>∃(i:Nat),i<=be.length/\gk=be.length-i/\iv=.int .i64 i/\Hid (∀i',i'<i->∀j',j'<be.length->i'<j'->oM l a (us,be.map Ex.xs) vs ms i' j'=true)/\ab [] w2 wr)
 case atStart=>exact⟨0,by omega,by omega,rfl,fun i' hi'=>by omega,ab.refl _ _⟩
 case round =>
  obtain⟨i,hi,hg,rfl,hall,hK⟩:=hrel
  by_cases hlt:i<be.length
  ·go_wp2_with fail
   go_loopg [10] (be.length-(i+1)) (fun gk2 jv wr2=>∃(j:Nat),i+1<=j/\j<=be.length/\gk2=be.length-j/\jv=.int .i64 j/\Hid (∀j',i<j'->j'<j->oM l a (us,be.map Ex.xs) vs ms i j'=true)/\ab [] w2 wr2)
   case atStart=>exact⟨i+1,by omega,by omega,by omega,by go_num,fun j' h1 h2=>by omega,hK⟩
   case round =>
    obtain⟨j,hj1,hj,hg2,rfl,hrow,hK2⟩:=hrel;clear hK
    by_cases hlj:j<be.length
    ·have hA:=A2'.still hK2
     have hG:=G2.still hK2;have d1:=hG.cell i hlt;have d2:=hG.cell j hlj;have q1:=HLN.out i hlt;have q2:=HLN.out j hlj;have hij:(i:Int)<be.length:=by omega
     have hjj:(j:Int)<be.length:=by omega
     have AP:=fun nq=>vA tb2 us (jT l a us) hv2 hm2 i j (wr.drewN nq) (hA.still ((ab.refl [] _).drewN nq)) hml2 hul (by rw[<-HLE.out];exact hlt) (by rw[<-HLE.out];exact hlj)
     have AR:=fun nq=>wK b rb ro g n tb vs ms hv hm (K i) (K j) (iK vs (be.map Ex.xs) be.length i) (iK vs (be.map Ex.xs) be.length j) (wr.drewN nq) ((hp2.still hK2).still ((ab.refl [] _).drewN nq)) ((h2.still hK2).still ((ab.refl [] _).drewN nq)) hml hvl ((hG.still ((ab.refl [] _).drewN nq)).own i hlt) ((hG.still ((ab.refl [] _).drewN nq)).own j hlj) (by omega) (by omega) (HIN.out i) (HIN.out j)
     have HKPij:=(show Hid _ from HKP.out i j hlt hlj)
     have HYE:Hid (oM l a (us,be.map Ex.xs) vs ms i j=true->∀j',i<j'->j'<j+1->oM l a (us,be.map Ex.xs) vs ms i j'=true):=by
      intro hh j' h1 h2
      by_cases e:j'=j
      ·subst e;exact hh
      ·exact hrow.out j' h1 (by omega)
     have HNO:Hid (oM l a (us,be.map Ex.xs) vs ms i j=false->R=false):=by
      intro hh
      cases e:R
      ·rfl
      ·have:=HT.out.1 e i hlt j hlj (by omega)
       rw[this]at hh;cases hh
     have HAP:=(show Hid _ from AP);have HAR:=(show Hid _ from AR);clear AP AR hall hrow hG hA;generalize iK vs (be.map Ex.xs) be.length i=X at *;generalize iK vs (be.map Ex.xs) be.length j=Y at *
     cases hb:gQ us.length (jT l a us) i j
     ·have HM:=(show Hid _ from HYE.out (by rw[HKPij.out,hb];rfl))
      rw[hb]at HAP;clear HNO HYE
      go_upto_region 9 with fail
      go_quiet (first | (go_at_call 215;exact Calls.quiet_of_same (HAP.out _)))
      go_wp2
      go_roundg (be.length-(j+1))
      case measure=>omega
      case rel=>exact⟨j+1,by omega,by omega,rfl,by go_num,HM.out,hK2.drewN _⟩
     ·rw[hb]at HAP
      cases hc:uZ vs.length ms X Y
      ·have HM:=(show Hid _ from HNO.out (by rw[HKPij.out,hb,hc];rfl))
       rw[hc]at HAR;clear HNO HYE
       go_upto_region 9 with fail
       go_quiet (first | (go_at_call 215;exact Calls.quiet_of_same (HAP.out _)) | (go_at_call 277;exact Calls.quiet_of (HAR.out _)))
       go_wp2;go_ret;exact⟨aB HM.out.symm,K2.trans (hK2.drewN _)⟩
      ·have HM:=(show Hid _ from HYE.out (by rw[HKPij.out,hb,hc];rfl))
       rw[hc]at HAR;clear HNO HYE
       go_upto_region 9 with fail
       go_quiet (first | (go_at_call 215;exact Calls.quiet_of_same (HAP.out _)) | (go_at_call 277;exact Calls.quiet_of (HAR.out _)))
       go_wp2
       go_roundg (be.length-(j+1))
       case measure=>omega
       case rel=>exact⟨j+1,by omega,by omega,rfl,by go_num,HM.out,hK2.drewN _⟩
    ·have HN:Hid (∀i',i'<i+1->∀j',j'<be.length->i'<j'->oM l a (us,be.map Ex.xs) vs ms i' j'=true):=by
      intro i' h1 j' h2 h3
      by_cases e:i'=i
      ·subst e;exact hrow.out j' h3 (by omega)
      ·exact hall.out i' (by omega) j' h2 h3
     clear hrow hall;go_wp2
     go_roundg (be.length-(i+1))
     case measure=>omega
     case rel=>exact⟨i+1,by omega,rfl,by go_num,HN,hK2⟩
  ·have HM:Hid (R=true):=HT.out.2 (fun i' h1 j' h2 h3=>hall.out i' (by omega) j' h2 h3)
   clear hall;go_wp2;go_ret;exact⟨aB HM.out.symm,K2.trans hK⟩
def xX(l:List St)(a n:Nat):Option ByteArray:=match l[n]? with
 | some s=>if(s.kind==2)=true/\io l n a=true then some (a8 s) else none
 | none=>none
def oy(l:List St)(a k:Nat):List ByteArray:=(List.range k).filterMap (xX l a)
def vC(l:List St)(a:Nat):List ByteArray:=oy l a l.length
theorem FJ(l:List St)(a k:Nat)(h:k<l.length)(h1:(l[k].kind==2)=true)(h2:io l k a=true):oy l a (k+1)=oy l a k++[a8 l[k]]:=by
 unfold oy;rw[List.range_succ,List.filterMap_append];simp[xX,h,h1,h2]
theorem IG(l:List St)(a k:Nat)(h:k<l.length)(h1:(l[k].kind==2)=false∨io l k a=false):oy l a (k+1)=oy l a k:=by
 unfold oy;rw[List.range_succ,List.filterMap_append]
 have:xX l a k=none:=by
  unfold xX;rw[List.getElem?_eq_getElem h];simp only;rw[if_neg];rintro ⟨q1,q2⟩
  rcases h1 with h1 | h1
  ·rw[h1]at q1;cases q1
  ·rw[h1]at q2;cases q2
 simp[this]
theorem xY(l:List St)(a k:Nat):(oy l a k).length<=k:=by
 have:=List.length_filterMap_le (xX l a) (List.range k);unfold oy;simpa using this
set_option maxRecDepth 100000 in
theorem ox(b o a:Nat)(l:List St)(H:Nat->Hd)(w:World)(h:eu w b o l H)(ok:jH l) :
  Calls Tryz.prog 208 #[.pointer (some ⟨b,o,none⟩),.int .i64 a] w fun e w'=>∃hd:Hd,e=.returned (.slice hd.ao (vC l a).length hd.cap)/\aA w' hd (aD (vC l a))/\(∀x,hd.blk=some x->w.heap.size<=x)/\ab [] w w':=by
 obtain⟨i0,hi,hz0,hz1,hz2⟩:=info_parts jI;have hlen:=ok.len;go_enter Tryz.func208,Tryz.ntmps208;go_wp2
 go_loopg [5,6] l.length (fun gk sv i wr=>∃(k:Nat) (hd:Hd),k<=l.length/\gk=l.length-k/\i=.int .i64 k/\sv=.slice hd.ao (oy l a k).length hd.cap/\aA wr hd (aD (oy l a k))/\(∀x,hd.blk=some x->w.heap.size<=x)/\ab [] w wr)
 case atStart=>exact⟨0,⟨none,0⟩,by omega,by omega,rfl,rfl,World.ownsRow_nil _ _ _ _,by intro x hx;simp[Hd.blk]at hx,ab.refl _ _⟩
 case round =>
  obtain⟨k,hd,hk,hg,rfl,rfl,hO,hN,hK⟩:=hrel;have hr:=h.still hK;have hal:=xY l a k
  by_cases hlt:k<l.length
  ·have hsl:=ok.syms k hlt
   have HY:=(show Hid _ from FJ l a k hlt);have HN0:=(show Hid _ from IG l a k hlt);have VA:=mZ l[k] (H (10+2*k)) (H (11+2*k));unfold eI at VA;have HVA:=(show Hid _ from VA);clear VA
   go_upto_region 6 with (first | (go_at_call 80;refine(dR b o l H _ (by exact hr)).mono ?_;rintro e wc ⟨rfl,hwc⟩;rw[hwc]) | (go_at_call 97;refine(bb b o k l H _ (by exact hr) hlt).mono ?_;rintro e w3 ⟨rfl,hk3⟩;unfold eI))
   obtain⟨W4,hW4⟩:∃W4,W4=w3.alloc (.cells #[.int .i64 l[k].kind,.string l[k].label,.slice (H (10+2*k)).ao l[k].symbols.length (H (10+2*k)).cap,.slice (H (11+2*k)).ao l[k].proof.length (H (11+2*k)).cap,.string l[k].fin.file,.int .i64 l[k].fin.line,.int .i64 l[k].fin.col,.int .i64 l[k].til] 158):=⟨_,rfl⟩
   have hk4:ab [] wr W4:=by rw[hW4];exact hk3.alloc _
   have B4:W4.heap[w3.heap.size]?=some (.cells #[.int .i64 l[k].kind,.string l[k].label,.slice (H (10+2*k)).ao l[k].symbols.length (H (10+2*k)).cap,.slice (H (11+2*k)).ao l[k].proof.length (H (11+2*k)).cap,.string l[k].fin.file,.int .i64 l[k].fin.line,.int .i64 l[k].fin.col,.int .i64 l[k].til] 158 (0,0)):=by rw[hW4];exact heap_alloc_new _ _
   rw[<-hW4];clear hW4;have u0:W4.cell? ⟨w3.heap.size,0,none⟩=some (.int .i64 l[k].kind):=by rw[aa B4];rfl
   have u1:W4.cell? ⟨w3.heap.size,1,none⟩=some (.string l[k].label):=by rw[aa B4];rfl
   have u2:W4.cell? ⟨w3.heap.size,2,none⟩=some (.slice (H (10+2*k)).ao l[k].symbols.length (H (10+2*k)).cap):=by rw[aa B4];rfl
   have u3:W4.cell? ⟨w3.heap.size,3,none⟩=some (.slice (H (11+2*k)).ao l[k].proof.length (H (11+2*k)).cap):=by rw[aa B4];rfl
   have u4:W4.cell? ⟨w3.heap.size,4,none⟩=some (.string l[k].fin.file):=by rw[aa B4];rfl
   have u5:W4.cell? ⟨w3.heap.size,5,none⟩=some (.int .i64 l[k].fin.line):=by rw[aa B4];rfl
   have u6:W4.cell? ⟨w3.heap.size,6,none⟩=some (.int .i64 l[k].fin.col):=by rw[aa B4];rfl
   have u7:W4.cell? ⟨w3.heap.size,7,none⟩=some (.int .i64 l[k].til):=by rw[aa B4];rfl
   have hr4:=hr.still hk4;have hO4:aA W4 hd (aD (oy l a k)):=hO.moved (fun x hx=>hk4.block x (hO.lt hx) (by simp));have hV4:=(hr4.sts.syms k l[k] (List.getElem?_eq_getElem hlt)).view;have hK4:=hK.trans hk4
   cases h2:(l[k].kind==2)
   ·have HT:=(show Hid _ from HN0.out (Or.inl h2))
    clear HY HN0;go_wp2
    go_roundg (l.length-(k+1))
    case measure=>omega
    case rel=>exact⟨k+1,hd,by omega,rfl,by go_num,by rw[HT.out],by rw[HT.out];exact hO4,hN,hK4⟩
   ·cases hh:io l k a
    ·have HT:=(show Hid _ from HN0.out (Or.inr hh))
     clear HY HN0;go_wp2_with (go_at_call 187;refine(fA b o k a l H _ (by exact hr4) hlt).mono ?_;rintro e wd ⟨rfl,hwd⟩;rw[hwd,hh])
     go_roundg (l.length-(k+1))
     case measure=>omega
     case rel=>exact⟨k+1,hd,by omega,rfl,by go_num,by rw[HT.out],by rw[HT.out];exact hO4,hN,hK4⟩
    ·have HT:=(show Hid _ from HY.out h2 hh)
     clear HY HN0;go_wp2_with (first | (go_at_call 187;refine(fA b o k a l H _ (by exact hr4) hlt).mono ?_;rintro e wd ⟨rfl,hwd⟩;rw[hwd,hh]) | (go_at_call 189;refine(HVA.out _ (by exact hV4) (by omega)).mono ?_;rintro e w5 ⟨rfl,k5⟩;have hO5:=hO4.moved (fun x hx=>(k5.alloc (.cells #[.string (a8 l[k])] 9)).block x (hO4.lt hx) (by simp))) | (at_builtin;refine aM _ rfl (.tmp 26) (.tmp 29) 61 rfl i0 (.string ⟨#[]⟩) 16 hd (aD (oy l a k)) Tryz.underlying61 hi hz0 hz1 hz2 rfl Nat.one_pos rfl (by exact hO5) ⟨_,0,none⟩ 1 1 [.string (a8 l[k])] rfl rfl ?d1 ?d2 Nat.one_pos ?d3 ?d4 ?_))
     case d1=>intro j u hj;match j,hj with | 0,hj=>simp at hj;subst hj;simp[Addr.add]
     case d2=>intro u hu;simp at hu;subst hu;rfl
     case d3=>simp only[aD];unfold maxLen;omega
     case d4=>simp only[aD];omega
     intro g6 cap6 w6 hw6 hgr6 hfresh6;rw[dV (oy l a k) (a8 l[k]),<-HT.out]at hw6;have hK5:=(hK4.trans k5).alloc (.cells #[.string (a8 l[k])] 9);have hK6:=hK5.grown hgr6 hN
     have hg6:w.heap.size<=g6:=by
      rcases hfresh6 with e | e
      ·exact hN g6 e
      ·have:=hK5.size;simp at e this;omega
     have hEl:Hid ((aD (oy l a k)).n+1=(oy l a (k+1)).length):=by show _=_;rw[HT.out];simp[aD]
     rw[hEl.out];clear hgr6 hfresh6 hO5;go_wp2
     go_roundg (l.length-(k+1))
     case measure=>omega
     case rel=>exact⟨k+1,⟨some ⟨g6,0,none⟩,cap6⟩,by omega,rfl,by go_num,rfl,hw6,by intro x hx;simp[Hd.blk]at hx;omega,hK6⟩
  ·have e:k=l.length:=by omega
   subst e;go_wp2_with (go_at_call 80;refine(dR b o l H _ (by exact hr)).mono ?_;rintro e wc ⟨rfl,hwc⟩;rw[hwc]);go_ret;exact⟨hd,rfl,hO,hN,hK⟩
def Lc:St:=⟨0,⟨#[]⟩,[],[],⟨⟨#[]⟩,0,0⟩,0⟩
abbrev JW:=List ByteArray×List (List ByteArray)
def mB(l:List St):List Nat->List (List ByteArray)->JW->Int×JW
 | h :: hs,e :: es,S=>if((lB (l.getD h Lc) e S).1==0)=true then mB l hs es (lB (l.getD h Lc) e S).2 else lB (l.getD h Lc) e S
 | _,_,S=>(0,S)
def qF(l:List St)(n:Nat)(vs:List ByteArray)(ms:List Bool)(sy:List ByteArray)(R:Int×JW):Int×List ByteArray :=
 if(R.1==0)=true then(if yU l n R.2 vs ms=true then(0,ma R.2.1 R.2.2 sy) else(9,[])) else(R.1,[])
def gU(l:List St)(n:Nat)(vs:List ByteArray)(ms:List Bool)(th:List (List ByteArray)):Int×List ByteArray :=
 if th.length<(bE l n).length then(6,[])
 else qF l n vs ms (l.getD n Lc).symbols (mB l (bE l n) (th.drop (th.length-(bE l n).length)) ([],[]))
theorem wZ(l:List St)(k:Nat)(h:k<l.length):l.getD k Lc=l[k]:=by rw[List.getD_eq_getElem?_getD,List.getElem?_eq_getElem h];rfl
theorem DB(l:List St)(hs:List Nat)(es:List (List ByteArray))(S:JW)(i:Nat)(h1:i<hs.length)(h2:i<es.length)(hl:hs[i]<l.length) :
  mB l (hs.drop i) (es.drop i) S=if((lB l[hs[i]] es[i] S).1==0)=true then mB l (hs.drop (i+1)) (es.drop (i+1)) (lB l[hs[i]] es[i] S).2 else lB l[hs[i]] es[i] S:=by
 rw[List.drop_eq_getElem_cons h1,List.drop_eq_getElem_cons h2,mB,wZ l _ hl]
theorem AD(l:List St)(hs:List Nat)(es:List (List ByteArray))(S:JW)(i:Nat)(h1:¬i<hs.length):mB l (hs.drop i) es S=(0,S):=by
 rw[List.drop_of_length_le (by omega)];cases es <;> rfl
structure FB(S:JW)(N:Nat):Prop where
 one:S.1.length<=N
 two:∀y∈S.2,y.length<=10000
theorem IT(s:St)(e:List ByteArray)(S:JW)(N:Nat)(h:FB S N)(he:e.length<=10000):FB (lB s e S).2 (N+1):=by
 have h1:=h.one;unfold lB
 split
 ·split <;> exact⟨by simp only;omega,h.two⟩
 ·split
  ·exact⟨by simp only;omega,h.two⟩
  ·next x r =>
   split
   ·refine⟨by simp;omega,fun y hy=>?_⟩
    simp at hy
    rcases hy with hy | rfl
    ·exact h.two y hy
    ·simp at he;omega
   ·exact⟨by simp only;omega,h.two⟩
theorem DM(l:List St)(a k:Nat):∀x∈eM l a k,x<k:=by
 induction k with
 | zero=>intro x hx;simp[eM]at hx
 | succ k ih =>
  intro x hx
  cases h:pk l (gI l a) a k
  ·rw[qS l a k h]at hx
   have:=ih x hx;omega
  ·rw[tU l a k h]at hx
   simp at hx
   rcases hx with hx | rfl
   ·have:=ih x hx;omega
   ·omega
theorem yR{l:List St}{a x:Nat}(h:x∈bE l a):x<l.length:=DM l a l.length x h
theorem aA.cutE{w:World}{h:Hd}{l:List Ex}(o:aA w h (fn l))(c:Nat)(hc:c<=l.length):aA w h (fn (l.take c)):=by
 have hlen:(l.take c).length=c:=by simp;omega
 refine⟨by simp[fn,yA],?_⟩
 rcases o.2 with ⟨hv,hn⟩ | ⟨g,cap,cur,hv,hb,hh,h1,h2,h3,h4⟩
 ·left
  have:l.length=0:=hn;have hl:l=[]:=List.eq_nil_of_length_eq_zero this;subst hl;simp[fn]at hv ⊢;exact hv
 ·right
  have h1':l.length<=cap:=h1;refine⟨g,cap,cur,?_,hb,hh,?_,h2,h3,?_⟩
  ·injection hv with a1 a2 a3
   simp only[fn];rw[a1,a3]
  ·show(l.take c).length<=cap
   omega
  ·show cur.toList.take ((l.take c).length*1)=yA (l.take c)
   have h4':cur.toList.take (l.length*1)=yA l:=h4;rw[hlen];unfold yA at h4' ⊢;rw[List.map_take,<-h4',List.take_take]
   congr 1
   omega
def nj(sh th:List Ex):Nat->dK
 | 0=>fn sh
 | 1=>fn th
 | _+2=>fn []
def fP(rb ro g n tb:Nat)(sh th:List Ex)(H:Nat->Hd):List Value :=
 [.pointer (some ⟨rb,ro,none⟩),.slice (some ⟨g,0,none⟩) n n,.pointer (some ⟨tb,0,none⟩),.slice (H 0).ao sh.length (H 0).cap,.slice (H 1).ao th.length (H 1).cap]
structure rD(w:World)(b rb ro g n tb:Nat)(sh th:List Ex)(H:Nat->Hd):Prop where
 bag:aR w b 307 (fP rb ro g n tb sh th H) (nj sh th) H
 shs:∀e∈sh,oU w b H e.hd e.xs/\e.xs.length<=32
 ths:∀e∈th,oU w b H e.hd e.xs/\e.xs.length<=32
theorem rD.still{w w':World}{b rb ro g n tb:Nat}{sh th:List Ex}{H:Nat->Hd}(h:rD w b rb ro g n tb sh th H)(k:ab [] w w'):rD w' b rb ro g n tb sh th H :=
 ⟨h.bag.still k,fun e he=>⟨(h.shs e he).1.still k,(h.shs e he).2⟩,fun e he=>⟨(h.ths e he).1.still k,(h.ths e he).2⟩⟩
theorem rD.ctx{w:World}{b rb ro g n tb:Nat}{sh th:List Ex}{H:Nat->Hd}(h:rD w b rb ro g n tb sh th H):uX w b rb ro g n tb:=⟨_,_,h.bag.blk,rfl,rfl,rfl⟩
theorem rD.cells{w:World}{b rb ro g n tb:Nat}{sh th:List Ex}{H:Nat->Hd}(h:rD w b rb ro g n tb sh th H) :
  w.cell? ⟨b,3,none⟩=some (.slice (H 0).ao sh.length (H 0).cap)/\w.cell? ⟨b,4,none⟩=some (.slice (H 1).ao th.length (H 1).cap):=⟨h.bag.cell 3,h.bag.cell 4⟩
structure Ag(w:World)(rb ro g tb:Nat)(l:List St)(HR K:Nat->Hd)(vs:List ByteArray)(ms:List Bool)(hv hm:Hd):Prop where
 recd:eu w rb ro l HR
 ok:jH l
 all:fJ w g l l.length K
 ap:jC w tb vs ms hv hm
 hml:ms.length=vs.length*vs.length
 hvl:vs.length<=10000
theorem Ag.still{w w':World}{rb ro g tb:Nat}{l:List St}{HR K:Nat->Hd}{vs:List ByteArray}{ms:List Bool}{hv hm:Hd}(h:Ag w rb ro g tb l HR K vs ms hv hm)(k:ab [] w w'):Ag w' rb ro g tb l HR K vs ms hv hm :=
 ⟨h.recd.still k,h.ok,h.all.still k,h.ap.still k,h.hml,h.hvl⟩
structure kH(w0 w:World)(b rb ro g n tb:Nat)(sh th:List Ex)(H:Nat->Hd):Prop where
 ply:rD w b rb ro g n tb sh th H
 kept:ab [] w0 w
 hb:w0.heap.size<=b
 hin:∀x,fm H x->w0.heap.size<=x
theorem kH.still{w0 w w':World}{b rb ro g n tb:Nat}{sh th:List Ex}{H:Nat->Hd}(h:kH w0 w b rb ro g n tb sh th H)(k:ab [] w w'):kH w0 w' b rb ro g n tb sh th H :=
 ⟨h.ply.still k,h.kept.trans k,h.hb,h.hin⟩
section
attribute [local go_sem] tI
theorem oU.turned{w w':World}{b:Nat}{H H':Nat->Hd}{h:Hd}{l:List ByteArray}(f:oU w b H h l)(t:aw b w H w' H'):oU w' b H' h l:=by
 refine⟨f.view.keptP t.1 (fun x hx=>?_),fun x hx=>?_⟩
 ·obtain⟨_,h2,h3⟩:=f.far x hx
  rintro (e | e)
  ·exact h2 e
  ·exact h3 e
 ·obtain⟨h1,h2,h3⟩:=f.far x hx
  exact⟨Nat.lt_of_lt_of_le h1 t.1.size,h2,t.fresh x h1 h3⟩
theorem aR.reset{w:World}{b t:Nat}{cs:List Value}{rows rows':Nat->dK}{H:Nat->Hd}(h:aR w b t cs rows H)(c:Nat)(u:Value)(o:∀i,aA w (H i) (rows' i)) :
  aR (w.setCell ⟨b,c,none⟩ u) b t (cs.set c u) rows' H/\aw b w H (w.setCell ⟨b,c,none⟩ u) H:=by
 obtain⟨h1,h2⟩:=h.set c u;refine⟨⟨h1.blk,fun i=>(o i).moved (fun k hk=>Below.heap_setCell _ _ _ _ ?_),h.apart,h.off⟩,h2⟩;rintro rfl;exact h.off i hk
theorem pS(w:World)(b:Nat)(H:Nat->Hd):oU w b H ⟨none,0⟩ []:=⟨Or.inl rfl,fun x hx=>by simp[Hd.blk]at hx⟩
set_option maxRecDepth 100000 in
theorem vB(w0 w:World)(b rb ro g tb nn:Nat)(l:List St)(HR K:Nat->Hd)(vs:List ByteArray)(ms:List Bool)(hv hm:Hd)(sh th:List Ex)(H:Nat->Hd)(E:Ag w0 rb ro g tb l HR K vs ms hv hm)(P:kH w0 w b rb ro g l.length tb sh th H)
  (hn:nn<l.length) (hA:pW l nn=true) (hth:th.length<=2000000) :
  Calls Tryz.prog 261 #[.pointer (some ⟨b,0,none⟩),.int .i64 nn] w fun e w'=>∃(th':List Ex) (ex:Ex),
   e=.returned (.tuple #[.slice ex.hd.ao ex.xs.length ex.hd.cap,.int .i64 (gU l nn vs ms (th.map Ex.xs)).1])/\ex.xs=(gU l nn vs ms (th.map Ex.xs)).2/\kH w0 w' b rb ro g l.length tb sh th' H/\oU w' b H ex.hd ex.xs /\
   (((gU l nn vs ms (th.map Ex.xs)).1==0)=true->th'=th.take (th.length-(bE l nn).length))/\th'.length<=th.length:=by
 have Ew:=E.still P.kept;have hlen:=E.ok.len;obtain⟨p0,p1,p2⟩:=P.ply.ctx.cells;obtain⟨p3,p4⟩:=P.ply.cells;have hyA:km l l.length nn=bE l nn:=by unfold km;rw[if_pos ⟨hn,hA⟩]
 have ca:=Ew.all.cell nn hn;have oa:=Ew.all.own nn hn;rw[hyA]at ca oa;obtain⟨AO,HAO⟩:∃AO,Hid ((K nn).ao=AO):=⟨_,rfl⟩
 rw[HAO.out]at ca;have hhl:(bE l nn).length<=l.length:=mD l nn l.length;have hhlt:∀i (hi:i<(bE l nn).length),(bE l nn)[i]<l.length:=fun i hi=>yR (List.getElem_mem hi)
 have hgn:(nn:Int)<l.length:=by omega
 have hgnn:¬(nn:Int) ≥ l.length:=by omega
 clear hyA p2 p3
 by_cases hu:th.length<(bE l nn).length
 ·have HF:Hid (gU l nn vs ms (th.map Ex.xs)=(6,[])):=by show _=_;unfold gU;rw[List.length_map,if_pos hu]
  have hneg:(th.length:Int)-(bE l nn).length<0:=by omega
  go_enter Tryz.func261,Tryz.ntmps261;go_wp2
  exact bodyPost_ret (v:=.tuple #[.slice none 0 0,.int .i64 6]) (by simp[results,Tryz.results261,go_sem]) rfl
   ⟨th,⟨⟨none,0⟩,[]⟩,by rw[HF.out];rfl,by rw[HF.out],P,pS _ _ _,by rw[HF.out];simp,Nat.le_refl _⟩
 ·obtain⟨f,hf⟩:∃f,th.length-(bE l nn).length=f:=⟨_,rfl⟩
  have hfi:(th.length:Int)-(bE l nn).length=(f:Int):=by omega
  have hf0:¬(f:Int)<0:=by omega
  obtain⟨RR,HRR⟩:∃RR,Hid (RR=mB l (bE l nn) ((th.map Ex.xs).drop f) ([],[])):=⟨_,rfl⟩
  have HF:Hid (gU l nn vs ms (th.map Ex.xs)=qF l nn vs ms l[nn].symbols RR):=by
   show _=_
   unfold gU;rw[List.length_map,if_neg hu,wZ l nn hn,hf,HRR.out]
  rw[hf];have hft:f+(bE l nn).length=th.length:=by omega
  have HFT:=(show Hid _ from hft);clear hf hft;obtain⟨W,hW⟩:∃W,W=w.alloc (.cells #[.slice none 0 0,.slice none 0 0] 343):=⟨_,rfl⟩
  have kW:ab [] w W:=by rw[hW];exact(ab.refl [] _).alloc _
  have SI:kI W w.heap.size [] [] ln:=by
   rw[hW];refine⟨⟨heap_alloc_new _ _,?_,fun i j _=>Or.inl rfl,fun i e=>by simp[ln,Hd.blk]at e⟩,rfl,by simp⟩;intro i
   match i with
   | 0=>exact World.ownsRow_nil _ _ _ _
   | 1=>exact World.ownsRow_nil _ _ _ _
   | m+2=>exact World.ownsRow_nil _ _ _ _
  have HW:=(show Hid _ from hW.symm);clear hW;go_enter Tryz.func261,Tryz.ntmps261
  go_upto_region 8 with fail
  rw[HW.out];have PW:=P.still kW;clear HW p0 p1 p4 ca;go_wp2
  go_loopg [9] (bE l nn).length (fun gk iv wr=>∃(i:Nat) (S:JW) (be:List Ex) (Hs:Nat->Hd),i<=(bE l nn).length/\gk=(bE l nn).length-i/\iv=.int .i64 i/\FB S i/\be.map Ex.xs=S.2/\Hid (RR=mB l ((bE l nn).drop i) (((th.map Ex.xs).drop f).drop i) S)/\kI wr w.heap.size S.1 be Hs/\(∀x,fm Hs x->w.heap.size<=x)/\(∀e∈be,e.hd.blk≠some b)/\ab [] w wr)
  case atStart=>exact⟨0,([],[]),[],ln,by omega,by omega,rfl,⟨by simp,by simp⟩,rfl,HRR.out,SI,fun x hx=>by obtain⟨i,hi⟩:=hx;simp[ln,Hd.blk]at hi,by simp,kW⟩
  case round =>
   obtain⟨i,S,be,Hs,hi,hg,rfl,hSo,hbe,hR,hS,hNs,hbn,hK⟩:=hrel
   by_cases hlt:i<(bE l nn).length
   ·obtain⟨us,S2⟩:=S
    simp only at hbe;subst hbe;have Pr:=P.still hK;have hfl:f+i<th.length:=by have:=HFT.out;omega
    have oT:aA wr (H 1) (fn th):=Pr.ply.bag.own 1
    rcases oT.ways with ⟨_,h0,_⟩ | ⟨gt,curt,et,-,et3,-⟩
    ·have:th.length=0:=h0
     omega
    have oH:aA wr (K nn) (bq (bE l nn)):=oa.moved (fun x hx=>hK.block x (oa.lt hx) (by simp))
    rcases oH.ways with ⟨_,h0,_⟩ | ⟨gh,curh,eh,-,eh3,-⟩
    ·have:(bE l nn).length=0:=h0
     omega
    have ch:=oH.cell eh i (.int .i64 (bE l nn)[i]) (kc _ i hlt);have ct:=oT.cell et (f+i) (tF th[f+i]) (pR th (f+i) hfl);obtain rfl:AO=some ⟨gh,0,none⟩:=HAO.out.symm.trans eh;have hcpt:th.length<=(H 1).cap:=et3;have hcph:(bE l nn).length<=(K nn).cap:=eh3;have hfar:=(P.ply.ths th[f+i] (List.getElem_mem hfl));have hhx:=hhlt i hlt;have HFA:=(show Hid _ from hR.out.trans (DB l (bE l nn) ((th.map Ex.xs).drop f) (us,be.map Ex.xs) i hlt (by simp;omega) hhx));have e1:((th.map Ex.xs).drop f)[i]'(by simp;omega)=th[f+i].xs:=by simp
    rw[e1]at HFA;have FOK:=IT l[(bE l nn)[i]] th[f+i].xs (us,be.map Ex.xs) i hSo (by omega);have FT:=fun(w3:World) (k3:ab [] wr w3)=>IU w.heap.size us be Hs l[(bE l nn)[i]] (HR (10+2*(bE l nn)[i])) (HR (11+2*(bE l nn)[i])) th[f+i].hd th[f+i].xs w3 (hS.still k3) (by have:=hSo.one;simp only at this;omega) (fun e he=>hSo.two _ (List.mem_map_of_mem he)) ((((E.still (Pr.kept.trans k3)).recd.sts.syms _ l[(bE l nn)[i]] (List.getElem?_eq_getElem hhx)).view)) (E.ok.syms _ hhx) ⟨(hfar.1.still (hK.trans k3)).view,fun x hx=>⟨Nat.lt_of_lt_of_le (hfar.1.far x hx).1 (hK.trans k3).size,by have:=(hfar.1.far x hx).1;omega,fun hm=>by have:=hNs x hm;have:=(hfar.1.far x hx).1;omega⟩⟩ (by omega)
    have ST:=fun(w3:World) (k3:ab [] wr w3)=>bb rb ro (bE l nn)[i] l HR w3 (E.still (Pr.kept.trans k3)).recd hhx
    have p4:=Pr.ply.cells.2;have p0:=Pr.ply.ctx.cells.1;rw[et]at p4
    have HPC:Hid (∀w',ab [] w w'->w'.cell? ⟨b,0,none⟩=some (.pointer (some ⟨rb,ro,none⟩))/\w'.cell? ⟨gh,i,none⟩=some (.int .i64 (bE l nn)[i])/\w'.cell? ⟨b,4,none⟩=some (.slice (some ⟨gt,0,none⟩) th.length (H 1).cap)/\w'.cell? ⟨gt,f+i,none⟩=some (tF th[f+i])):=by
     intro w' k;have P':=P.still k;refine⟨P'.ply.ctx.cells.1,(oa.moved (fun x hx=>k.block x (oa.lt hx) (by simp))).cell eh i _ (kc _ i hlt),?_,(P'.ply.bag.own 1).cell et (f+i) (tF th[f+i]) (pR th (f+i) hfl)⟩;rw[<-et];exact P'.ply.cells.2
    have HP9:Hid (∀x,(x=w.heap.size∨fm Hs x)->w.heap.size<=x):=by
     rintro x (e | e)
     ·omega
     ·exact hNs x e
    have HFT2:=(show Hid _ from FT);have HST:=(show Hid _ from ST);have hwrp:IntKind.i64.wrap ((f:Int)+i)=(f:Int)+i:=by rw[IntKind.wrap_i64];omega
    have hfi0:(0:Int)<=(f:Int)+i:=by omega
    have hfi1:(f:Int)+i<th.length:=by omega
    have hti:((f:Int)+i).toNat=f+i:=by omega
    have hfar2:=hfar.1.far;clear FT ST hR e1 oT oH hfar et eh;unfold tF at ct HPC;generalize th[f+i]=ex at *;generalize (bE l nn)[i]=hn1 at *;generalize lB l[hn1] ex.xs (us,be.map Ex.xs)=Q at *;obtain⟨q,S9⟩:=Q;simp only at HFA FOK HFT2;have hfb:ex.hd.blk≠some b:=fun e=>(hfar2 b e).2.1 rfl
    cases hq:(q==0)
    ·have hq':(q != 0)=true:=by simp[bne,hq]
     have HN:Hid (gU l nn vs ms (th.map Ex.xs)=(q,[])):=by show _=_;rw[HF.out,HFA.out,if_neg (by rw[hq];simp)];simp[qF,hq]
     clear HFA
     go_upto_region 11 with fail
     go_region_held3 (fun w'=>w'.cell? ⟨b,0,none⟩=some (.pointer (some ⟨rb,ro,none⟩))/\w'.cell? ⟨gh,i,none⟩=some (.int .i64 hn1)/\w'.cell? ⟨b,4,none⟩=some (.slice (some ⟨gt,0,none⟩) th.length (H 1).cap)/\w'.cell? ⟨gt,f+i,none⟩=some (.slice ex.hd.ao ex.xs.length ex.hd.cap)) (go_keep) (first | (go_at_call 97;refine(HST.out _ (by exact(ab.refl [] _).drew)).mono ?_;rintro e w3 ⟨rfl,k3⟩;obtain⟨x0,x1,x2,x3⟩:=HPC.out w3 (hK.drew.trans k3)) | (go_at_call 272;refine(HFT2.out _ (by exact(ab.refl [] _).drew.trans k3)).mono ?_;rintro e w9 ⟨be9,H9,rfl,SI9,hbe9,T9,hmem9⟩;have K9:=(hK.drew.trans k3).ofP T9.1 HP9.out;obtain⟨z0,z1,z2,z3⟩:=HPC.out w9 K9))
     all_goals
      clear z0 z1 z2 z3 x0 x1 x2 x3;go_wp2
      exact bodyPost_ret (v:=.tuple #[.slice none 0 0,.int .i64 q]) (by simp[results,Tryz.results261,go_sem]) rfl
       ⟨th,⟨⟨none,0⟩,[]⟩,by rw[HN.out];rfl,by rw[HN.out],P.still K9,pS _ _ _,fun hh=>by rw[HN.out]at hh;exact absurd (hq.symm.trans hh) (by simp),Nat.le_refl _⟩
    ·have hq':(q != 0)=false:=by simp[bne,hq]
     have HN:Hid (RR=mB l ((bE l nn).drop (i+1)) (((th.map Ex.xs).drop f).drop (i+1)) S9):=by show _=_;rw[HFA.out,if_pos hq]
     clear HFA
     go_upto_region 11 with fail
     go_region_held3 (fun w'=>w'.cell? ⟨b,0,none⟩=some (.pointer (some ⟨rb,ro,none⟩))/\w'.cell? ⟨gh,i,none⟩=some (.int .i64 hn1)/\w'.cell? ⟨b,4,none⟩=some (.slice (some ⟨gt,0,none⟩) th.length (H 1).cap)/\w'.cell? ⟨gt,f+i,none⟩=some (.slice ex.hd.ao ex.xs.length ex.hd.cap)) (go_keep) (first | (go_at_call 97;refine(HST.out _ (by exact(ab.refl [] _).drew)).mono ?_;rintro e w3 ⟨rfl,k3⟩;obtain⟨x0,x1,x2,x3⟩:=HPC.out w3 (hK.drew.trans k3)) | (go_at_call 272;refine(HFT2.out _ (by exact(ab.refl [] _).drew.trans k3)).mono ?_;rintro e w9 ⟨be9,H9,rfl,SI9,hbe9,T9,hmem9⟩;have K9:=(hK.drew.trans k3).ofP T9.1 HP9.out;obtain⟨z0,z1,z2,z3⟩:=HPC.out w9 K9))
     all_goals
      have hN9:∀x,fm H9 x->w.heap.size<=x:=fun x hx=>by
       rcases T9.2 x hx with e | e
       ·exact hNs x e
       ·exact Nat.le_trans (hK.drew.trans k3).size e
      have hb9:∀e∈be9,e.hd.blk≠some b:=fun e he=>by
       rcases hmem9 e he with q | q
       ·exact hbn e q
       ·rw[q];exact hfb
      clear z0 z1 z2 z3 x0 x1 x2 x3;go_wp2
      go_roundg ((bE l nn).length-(i+1))
      case measure=>omega
      case rel=>exact⟨i+1,S9,be9,H9,by omega,rfl,by go_num,FOK,hbe9,HN.out,SI9,hN9,hb9,K9⟩
   ·obtain⟨us,S2⟩:=S
    simp only at hbe;subst hbe
    have HFE:Hid (gU l nn vs ms (th.map Ex.xs)=qF l nn vs ms l[nn].symbols (0,(us,be.map Ex.xs))):=by
     show _=_
     rw[HF.out,hR.out,AD _ _ _ _ _ hlt]
    have Pr:=P.still hK;have Er:=E.still Pr.kept;have hul:=hSo.one;simp only at hul;have KA:=tW b rb ro g l.length tb nn w.heap.size l HR vs ms hv hm us be Hs wr Pr.ply.ctx Er.ap E.hml E.hvl Er.recd E.ok hS (by omega) (fun e he=>hSo.two _ (List.mem_map_of_mem he));clear hR
    cases hk:yU l nn (us,be.map Ex.xs) vs ms
    ·have HN:Hid (gU l nn vs ms (th.map Ex.xs)=(9,[])):=by show _=_;rw[HFE.out];simp[qF,hk]
     rw[hk]at KA;clear HFE
     go_upto_region 15 with (go_at_call 273;refine KA.mono ?_;rintro e w2 ⟨rfl,k2⟩)
     go_wp2
     exact bodyPost_ret (v:=.tuple #[.slice none 0 0,.int .i64 9]) (by simp[results,Tryz.results261,go_sem]) rfl
      ⟨th,⟨⟨none,0⟩,[]⟩,by rw[HN.out];rfl,by rw[HN.out],Pr.still k2,pS _ _ _,by rw[HN.out];simp,Nat.le_refl _⟩
    ·have HN:Hid (gU l nn vs ms (th.map Ex.xs)=(0,ma us (be.map Ex.xs) l[nn].symbols)):=by show _=_;rw[HFE.out];simp[qF,hk]
     rw[hk]at KA;clear HFE
     go_upto_region 16 with (go_at_call 273;refine KA.mono ?_;rintro e w2 ⟨rfl,k2⟩)
     have P2:=Pr.still k2;have S2':=hS.still k2;have p4:=P2.ply.cells.2;have y4:=P2.ply.bag.free;have hb2:=P2.ply.bag.lt;have oT:aA w2 (H 1) (fn th):=P2.ply.bag.own 1;have hfth:f<=th.length:=by have:=HFT.out;omega
     have hfi2:(f:Int)<=th.length:=by omega
     have hPb:w.heap.size > b:=P.ply.bag.lt
     rcases oT.ways with ⟨e0,h0,-⟩ | ⟨gt,curt,et,-,et3,-⟩
     ·have h0':th.length=0:=h0
      have hf00:f=0:=by omega
      have HQX:Hid (Value.slice none 0 0=Value.slice (H 1).ao (th.take f).length (H 1).cap):=by show _=_;rw[e0,hf00];rfl
      have HH1:=(show Hid _ from e0);rw[e0,h0']at p4;have hfz:(f:Int)=0:=by omega
      clear e0 h0 h0'
      go_upto_region 17 with fail
      have D5:Hid (aR (w2.setCell ⟨b,4,none⟩ (.slice none 0 0)) b 307 (fP rb ro g l.length tb sh (th.take f) H) (nj sh (th.take f)) H/\aw b w2 H (w2.setCell ⟨b,4,none⟩ (.slice none 0 0)) H):=by
       have q:=P2.ply.bag.reset (rows':=nj sh (th.take f)) 4 (.slice none 0 0) (by
        intro j
        match j with
        | 0=>exact P2.ply.bag.own 0
        | 1=>exact oT.cutE f hfth
        | m+2=>exact P2.ply.bag.own (m+2))
       have e:(fP rb ro g l.length tb sh th H).set 4 (.slice none 0 0)=fP rb ro g l.length tb sh (th.take f) H:=by
        simp only[fP,List.set_cons_succ,List.set_cons_zero];rw[HQX.out]
       rw[e]at q;exact q
      generalize hX:w2.setCell ⟨b,4,none⟩ (.slice none 0 0)=X at D5 ⊢;have kX:ab [] w0 X:=by rw[<-hX];exact P2.kept.setCell (Or.inr P.hb) _
      have PX:kH w0 X b rb ro g l.length tb sh (th.take f) H:=⟨⟨D5.out.1,fun e he=>⟨(P2.ply.shs e he).1.turned D5.out.2,(P2.ply.shs e he).2⟩,fun e he=>⟨(P2.ply.ths e (List.mem_of_mem_take he)).1.turned D5.out.2,(P2.ply.ths e (List.mem_of_mem_take he)).2⟩⟩,kX,P.hb,P.hin⟩;have kb:dQ (fun x=>x=b) w2 X:=by rw[<-hX];exact(dQ.refl (fun x=>x=b) w2).setCell (Or.inl (show b=b from rfl)) _
      have SX:kI X w.heap.size us be Hs:=⟨S2'.bag.keptP kb (by omega) (fun x hx=>by have:=hNs x hx;omega),S2'.len,fun e he=>⟨(S2'.exs e he).view.keptP kb (fun x hx e2=>hbn e he (e2 ▸ hx)),(S2'.exs e he).adr,fun x hx=>⟨Nat.lt_of_lt_of_le ((S2'.exs e he).far x hx).1 kb.size,((S2'.exs e he).far x hx).2⟩⟩⟩;have p0:=PX.ply.ctx.cells.1;have hbX:=PX.ply.bag.lt;have hin2:=fun x (hx:fm H x)=>PX.ply.bag.inlt hx
      have hsyl:=E.ok.syms nn hn;have EX:=E.still kX;clear hX p4 y4 KA;go_wp2_with (first | (go_at_call 97;refine(bb rb ro nn l HR _ (by exact EX.recd) hn).mono ?_;rintro e w6 ⟨rfl,k6⟩;unfold eI) | (go_at_call 274;refine(nP w.heap.size us be Hs (HR (10+2*nn)) l[nn].symbols _ (by exact SX.still k6) (by omega) (fun e he=>hSo.two _ (List.mem_map_of_mem he)) (((EX.still k6).recd.sts.syms nn l[nn] (List.getElem?_eq_getElem hn)).view) (by omega)).mono ?_;rintro e w7 ⟨hd,rfl,o7,n7,k7⟩));have k6s:=k6.size
      exact bodyPost_ret (v:=.tuple #[.slice hd.ao (ma us (be.map Ex.xs) l[nn].symbols).length hd.cap,.int .i64 0]) (by simp[results,Tryz.results261,go_sem]) rfl
       ⟨th.take f,⟨hd,ma us (be.map Ex.xs) l[nn].symbols⟩,by rw[HN.out],by rw[HN.out],PX.still (k6.trans k7),⟨o7.view,fun x hx=>⟨o7.lt hx,by have:=n7 x hx;omega,fun hm=>by have:=n7 x hx;have:=hin2 x hm;omega⟩⟩,fun _=>rfl,by simp;omega⟩
     ·have HQX:Hid (Value.slice (some ⟨gt,0,none⟩) f (H 1).cap=Value.slice (H 1).ao (th.take f).length (H 1).cap):=by show _=_;rw[et];simp;omega
      have hcpt:th.length<=(H 1).cap:=et3;have hfc:(f:Int)<=(H 1).cap:=by omega
      rw[et]at p4;clear et
      go_upto_region 17 with fail
      have D5:Hid (aR (w2.setCell ⟨b,4,none⟩ (.slice (some ⟨gt,0,none⟩) f (H 1).cap)) b 307 (fP rb ro g l.length tb sh (th.take f) H) (nj sh (th.take f)) H/\aw b w2 H (w2.setCell ⟨b,4,none⟩ (.slice (some ⟨gt,0,none⟩) f (H 1).cap)) H):=by
       have q:=P2.ply.bag.reset (rows':=nj sh (th.take f)) 4 (.slice (some ⟨gt,0,none⟩) f (H 1).cap) (by
        intro j
        match j with
        | 0=>exact P2.ply.bag.own 0
        | 1=>exact oT.cutE f hfth
        | m+2=>exact P2.ply.bag.own (m+2))
       have e:(fP rb ro g l.length tb sh th H).set 4 (.slice (some ⟨gt,0,none⟩) f (H 1).cap)=fP rb ro g l.length tb sh (th.take f) H:=by
        simp only[fP,List.set_cons_succ,List.set_cons_zero];rw[HQX.out]
       rw[e]at q;exact q
      generalize hX:w2.setCell ⟨b,4,none⟩ (.slice (some ⟨gt,0,none⟩) f (H 1).cap)=X at D5 ⊢;have kX:ab [] w0 X:=by rw[<-hX];exact P2.kept.setCell (Or.inr P.hb) _
      have PX:kH w0 X b rb ro g l.length tb sh (th.take f) H:=⟨⟨D5.out.1,fun e he=>⟨(P2.ply.shs e he).1.turned D5.out.2,(P2.ply.shs e he).2⟩,fun e he=>⟨(P2.ply.ths e (List.mem_of_mem_take he)).1.turned D5.out.2,(P2.ply.ths e (List.mem_of_mem_take he)).2⟩⟩,kX,P.hb,P.hin⟩;have kb:dQ (fun x=>x=b) w2 X:=by rw[<-hX];exact(dQ.refl (fun x=>x=b) w2).setCell (Or.inl (show b=b from rfl)) _
      have SX:kI X w.heap.size us be Hs:=⟨S2'.bag.keptP kb (by omega) (fun x hx=>by have:=hNs x hx;omega),S2'.len,fun e he=>⟨(S2'.exs e he).view.keptP kb (fun x hx e2=>hbn e he (e2 ▸ hx)),(S2'.exs e he).adr,fun x hx=>⟨Nat.lt_of_lt_of_le ((S2'.exs e he).far x hx).1 kb.size,((S2'.exs e he).far x hx).2⟩⟩⟩;have p0:=PX.ply.ctx.cells.1;have hbX:=PX.ply.bag.lt;have hin2:=fun x (hx:fm H x)=>PX.ply.bag.inlt hx
      have hsyl:=E.ok.syms nn hn;have EX:=E.still kX;clear hX p4 y4 KA;go_wp2_with (first | (go_at_call 97;refine(bb rb ro nn l HR _ (by exact EX.recd) hn).mono ?_;rintro e w6 ⟨rfl,k6⟩;unfold eI) | (go_at_call 274;refine(nP w.heap.size us be Hs (HR (10+2*nn)) l[nn].symbols _ (by exact SX.still k6) (by omega) (fun e he=>hSo.two _ (List.mem_map_of_mem he)) (((EX.still k6).recd.sts.syms nn l[nn] (List.getElem?_eq_getElem hn)).view) (by omega)).mono ?_;rintro e w7 ⟨hd,rfl,o7,n7,k7⟩));have k6s:=k6.size
      exact bodyPost_ret (v:=.tuple #[.slice hd.ao (ma us (be.map Ex.xs) l[nn].symbols).length hd.cap,.int .i64 0]) (by simp[results,Tryz.results261,go_sem]) rfl
       ⟨th.take f,⟨hd,ma us (be.map Ex.xs) l[nn].symbols⟩,by rw[HN.out],by rw[HN.out],PX.still (k6.trans k7),⟨o7.view,fun x hx=>⟨o7.lt hx,by have:=n7 x hx;omega,fun hm=>by have:=n7 x hx;have:=hin2 x hm;omega⟩⟩,fun _=>rfl,by simp;omega⟩
end
end Go.Proofs.YtpddjjabfbfifaaGreat

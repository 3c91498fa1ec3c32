import Derived.Test.YtpddjjabfbfifaaGreatG20
namespace Go.Proofs.YtpddjjabfbfifaaGreat
open Go.RowKit
set_option maxHeartbeats 40000000
def iK(vs:List ByteArray)(bs:List (List ByteArray))(k n:Nat):List Nat:=if n<k then jp vs (bs.getD n []) else []
theorem gn.congr{w:World}{g N:Nat}{F F':Nat->List Nat}{K:Nat->Hd}(h:gn w g N F K)(e:∀n,n<N->F n=F' n):gn w g N F' K:=by
 obtain⟨arr,h1,h2,h3⟩:=h.arr;exact⟨⟨arr,h1,h2,fun n hn=>by rw[<-e n hn];exact h3 n hn⟩,fun n hn=>by rw[<-e n hn];exact h.own n hn,h.off⟩
set_option maxRecDepth 100000 in
theorem AJ(b rb ro g n tb:Nat)(vs:List ByteArray)(ms:List Bool)(hv hm hl:Hd)(be:List Ex)(w:World)(hp:vg w b rb ro g n tb)(h:jE w tb vs ms hv hm)(hvl:vs.length<=10000)
  (ho:aA w hl (fn be)) (hbl:be.length<=10000) (hex:∀e∈be,jg w e.hd e.xs/\e.xs.length<=10000) :
  Calls Tryz.prog 276 #[.pointer (some ⟨b,0,none⟩),.slice hl.ao be.length hl.cap] w fun e w'=>∃(g':Nat) (K:Nat->Hd),e=.returned (.slice (some ⟨g',0,none⟩) be.length be.length)/\gn w' g' be.length (iK vs (be.map Ex.xs) be.length) K/\ab [] w w':=by
 obtain⟨i0,hi,hz0,hz1,hz2⟩:=info_parts JW;have m1:=fun w=>dn (P:=Tryz.prog) w 181 26 i0 _ Tryz.underlying181 hi hz0 be.length 1 hz1 (by rw[hz2];omega) (by omega)
 obtain⟨mc,hmc⟩:∃mc,mc=madeCells (Value.slice none 0 0).cells (be.length*1):=⟨_,rfl⟩
 rw[<-hmc]at m1
 have A0:Hid (gn (w.alloc (.cells mc 26)) w.heap.size be.length (iK vs (be.map Ex.xs) 0) ld):=by
  refine⟨⟨mc,heap_alloc_new _ _,by rw[hmc,size_madeCells];omega,?_⟩,?_,fun n _ e=>by simp[ld,Hd.blk]at e⟩
  ·intro n hn
   have e:iK vs (be.map Ex.xs) 0 n=[]:=by unfold iK;rw[if_neg (by omega)]
   rw[e,hmc];exact xd _ _ _ (by omega)
  ·intro n hn
   have e:iK vs (be.map Ex.xs) 0 n=[]:=by unfold iK;rw[if_neg (by omega)]
   rw[e];exact World.ownsRow_nil _ _ _ _
 clear hmc;go_enter Tryz.func276,Tryz.ntmps276;go_wp2
 go_loopg [6] be.length (fun gk i wr=>∃(k:Nat) (K:Nat->Hd),k<=be.length/\gk=be.length-k/\i=.int .i64 k/\gn wr w.heap.size be.length (iK vs (be.map Ex.xs) k) K/\ab [] w wr)
 case atStart=>exact⟨0,ld,by omega,by omega,rfl,A0.out,(ab.refl _ _).alloc _⟩
 case round =>
  obtain⟨k,K,hk,hg,rfl,hA,hK⟩:=hrel;clear A0 m1
  by_cases hlt:k<be.length
  ·rcases ho.ways with ⟨_,h0,_⟩ | ⟨gb,curb,eb,-,eb3,-⟩
   ·have:be.length=0:=h0
    omega
   have hob:aA wr hl (fn be):=ho.moved (fun x hx=>hK.block x (ho.lt hx) (by simp));have cb:=hob.cell eb k (tB be[k]) (pR be k hlt);have hcp:be.length<=hl.cap:=eb3;obtain⟨hvk,hxk⟩:=hex be[k] (List.getElem_mem hlt);have PO:=uP b rb ro g n tb vs ms hv hm be[k].hd be[k].xs wr (hp.still hK) (h.still hK) (by omega) (hvk.still hK) (by omega)
   have HNX:Hid (∀n,n<be.length->Bc (iK vs (be.map Ex.xs) k) k (jp vs be[k].xs) n=iK vs (be.map Ex.xs) (k+1) n):=by
    intro n hn;unfold Bc iK
    by_cases e:n=k
    ·subst e;simp[hlt]
    ·rw[if_neg e]
     by_cases e2:n<k
     ·rw[if_pos e2,if_pos (by omega)]
     ·rw[if_neg e2,if_neg (by omega)]
   unfold tB at cb;obtain⟨ao,cap⟩:=hl;simp only at eb;subst eb;have hgw:=hA.lt;clear hob;generalize be[k]=ex at *;go_wp2_with fail;refine PO.mono ?_;rintro e w2 ⟨hd,rfl,o2,n2,k2⟩;have hA2:=hA.still k2;have c2:=hA2.cell k hlt;have f2:=hA2.free;have ST:=(show Hid _ from(hA2.store (k:=k) (jp vs ex.xs) hd o2 (fun e=>by have:=n2 _ e;omega)).congr HNX.out);have hKw:=hK.size;have hK2:=(hK.trans k2);have HK3:Hid (∀v,ab [] w (w2.setCell ⟨w.heap.size,k,none⟩ v)):=fun v=>hK2.setCell (Or.inr (Nat.le_refl _)) v
   go_wp2
   go_roundg (be.length-(k+1))
   case measure=>omega
   case rel=>exact⟨k+1,_,by omega,rfl,by go_num,ST.out,HK3.out _⟩
  ·have e:k=be.length:=by omega
   subst e;go_wp2;go_ret;exact⟨_,K,rfl,hA,hK⟩
def oJ(l:List St)(a:Nat)(S:List ByteArray×List (List ByteArray))(vs:List ByteArray)(ms:List Bool)(i j:Nat):Bool :=
 !(gW S.1.length (jZ l a S.1) i j)||uX vs.length ms (jp vs (S.2.getD i [])) (jp vs (S.2.getD j []))
def yi(l:List St)(a:Nat)(S:List ByteArray×List (List ByteArray))(vs:List ByteArray)(ms:List Bool):Bool :=
 decide (∀i,i<S.1.length->∀j,j<S.1.length->i<j->oJ l a S vs ms i j=true)
set_option maxRecDepth 100000 in
theorem uq(b rb ro g n tb a sb:Nat)(l:List St)(HR:Nat->Hd)(vs:List ByteArray)(ms:List Bool)(hv hm:Hd)(us:List ByteArray)(be:List Ex)(H:Nat->Hd)(w:World)(hp:vg w b rb ro g n tb)(h:jE w tb vs ms hv hm)(hml:ms.length=vs.length*vs.length)(hvl:vs.length<=10000)
  (hr:ev w rb ro l HR) (ok:jH l) (hs:kK w sb us be H) (hul:us.length<=10000) (hxl:∀e∈be,e.xs.length<=10000) :
  Calls Tryz.prog 273 #[.pointer (some ⟨b,0,none⟩),.int .i64 a,.pointer (some ⟨sb,0,none⟩)] w fun e w'=>e=.returned (.bool (yi l a (us,be.map Ex.xs) vs ms))/\ab [] w w':=by
 obtain⟨p0,p1,p2⟩:=hp.cells;obtain⟨s0,s1⟩:=hs.cells;have HLE:Hid (be.length=us.length):=hs.len;have hbl:be.length<=10000:=by rw[HLE.out];exact hul
 obtain⟨R,HR'⟩:∃R,Hid (R=yi l a (us,be.map Ex.xs) vs ms):=⟨_,rfl⟩
 rw[<-HR'.out];have HO0:∀w1,ab [] w w1->aA w1 (H 0) (aD us):=fun w1 k1=>(hs.still k1).bag.own 0
 have HO1:∀w1,ab [] w w1->aA w1 (H 1) (fn be):=fun w1 k1=>(hs.still k1).bag.own 1
 have HAT:=(show Hid _ from fun w1 (k1:ab [] w w1)=>Gt rb ro a l HR (H 0) us w1 (hr.still k1) ok (HO0 w1 k1) hul)
 have HC:Hid (∀w',ab [] w.drew w'->w'.cell? ⟨b,0,none⟩=some (.pointer (some ⟨rb,ro,none⟩))/\w'.cell? ⟨sb,0,none⟩=some (.slice (H 0).ao us.length (H 0).cap)):=by
  intro w' k;exact⟨(hp.still ((ab.refl [] w).drew.trans k)).cells.1,(hs.still ((ab.refl [] w).drew.trans k)).cells.1⟩
 have hsb:=hs.bag.lt;go_enter Tryz.func273,Tryz.ntmps273
 go_upto_region 1 with fail
 go_region_held3 (fun w'=>w'.cell? ⟨b,0,none⟩=some (.pointer (some ⟨rb,ro,none⟩))/\w'.cell? ⟨sb,0,none⟩=some (.slice (H 0).ao us.length (H 0).cap)) (go_keep) (first | (go_at_call 209;refine(HAT.out _ (by exact(ab.refl [] _).drew)).mono ?_;rintro e w1 ⟨tb2,hv2,hm2,rfl,A2,-,-,k1⟩;obtain⟨x0,x1⟩:=HC.out w1 k1))
 have K1:=(ab.refl [] w).drew.trans k1;have hs1:=hs.still K1;obtain⟨y0,y1⟩:=hs1.cells;have WI:=AJ b rb ro g n tb vs ms hv hm (H 1) be w1 (hp.still K1) (h.still K1) hvl (HO1 w1 K1) hbl (fun e he=>⟨(hs1.exs e he).view,hxl e he⟩);have hml2:=lF l a us l.length;go_wp2_with fail;refine WI.mono ?_;rintro e w2 ⟨g2,K,rfl,G2,k2⟩;have A2':=A2.still k2;have K2:=K1.trans k2;have hp2:=hp.still K2;have h2:=h.still K2
 have HT:Hid (R=true ↔ ∀i,i<be.length->∀j,j<be.length->i<j->oJ l a (us,be.map Ex.xs) vs ms i j=true):=by
  show _ ↔ _
  rw[HR'.out,HLE.out];unfold yi;rw[decide_eq_true_iff]
 have HIN:Hid (∀n,∀x∈iK vs (be.map Ex.xs) be.length n,x<vs.length):=by
  intro n x hx;unfold iK at hx
  split at hx
  ·exact E8 hx
  ·cases hx
 have HLN:Hid (∀n,n<be.length->(iK vs (be.map Ex.xs) be.length n).length<=10000):=by
  intro n hn;unfold iK;rw[if_pos hn];refine Nat.le_trans (Av _ _) ?_;rw[List.getD_eq_getElem?_getD];simp[hn];exact hxl _ (List.getElem_mem hn)
 have HKP:Hid (∀i j,i<be.length->j<be.length->oJ l a (us,be.map Ex.xs) vs ms i j=(!(gW us.length (jZ l a us) i j)||uX vs.length ms (iK vs (be.map Ex.xs) be.length i) (iK vs (be.map Ex.xs) be.length j))):=by
  intro i j hi hj;unfold oJ iK;rw[if_pos hi,if_pos hj]
 clear WI HO0 HO1 HAT HC y0 y1 p0 p1 p2 s0 s1 x0 x1;go_wp2
 go_loopg [9] be.length (fun gk iv wr=>∃(i:Nat),i<=be.length/\gk=be.length-i/\iv=.int .i64 i/\Hid (∀i',i'<i->∀j',j'<be.length->i'<j'->oJ l a (us,be.map Ex.xs) vs ms i' j'=true)/\ab [] w2 wr)
 case atStart=>exact⟨0,by omega,by omega,rfl,fun i' hi'=>by omega,ab.refl _ _⟩
 case round =>
  obtain⟨i,hi,hg,rfl,hall,hK⟩:=hrel
  by_cases hlt:i<be.length
  ·go_wp2_with fail
   go_loopg [10] (be.length-(i+1)) (fun gk2 jv wr2=>∃(j:Nat),i+1<=j/\j<=be.length/\gk2=be.length-j/\jv=.int .i64 j/\Hid (∀j',i<j'->j'<j->oJ l a (us,be.map Ex.xs) vs ms i j'=true)/\ab [] w2 wr2)
   case atStart=>exact⟨i+1,by omega,by omega,by omega,by go_num,fun j' h1 h2=>by omega,hK⟩
   case round =>
    obtain⟨j,hj1,hj,hg2,rfl,hrow,hK2⟩:=hrel;clear hK
    by_cases hlj:j<be.length
    ·have hA:=A2'.still hK2
     have hG:=G2.still hK2;have d1:=hG.cell i hlt;have d2:=hG.cell j hlj;have q1:=HLN.out i hlt;have q2:=HLN.out j hlj;have hij:(i:Int)<be.length:=by omega
     have hjj:(j:Int)<be.length:=by omega
     have AP:=fun nq=>wo tb2 us (jZ l a us) hv2 hm2 i j (wr.drewN nq) (hA.still ((ab.refl [] _).drewN nq)) hml2 hul (by rw[<-HLE.out];exact hlt) (by rw[<-HLE.out];exact hlj)
     have AR:=fun nq=>xo b rb ro g n tb vs ms hv hm (K i) (K j) (iK vs (be.map Ex.xs) be.length i) (iK vs (be.map Ex.xs) be.length j) (wr.drewN nq) ((hp2.still hK2).still ((ab.refl [] _).drewN nq)) ((h2.still hK2).still ((ab.refl [] _).drewN nq)) hml hvl ((hG.still ((ab.refl [] _).drewN nq)).own i hlt) ((hG.still ((ab.refl [] _).drewN nq)).own j hlj) (by omega) (by omega) (HIN.out i) (HIN.out j)
     have HKPij:=(show Hid _ from HKP.out i j hlt hlj)
     have HYE:Hid (oJ l a (us,be.map Ex.xs) vs ms i j=true->∀j',i<j'->j'<j+1->oJ l a (us,be.map Ex.xs) vs ms i j'=true):=by
      intro hh j' h1 h2
      by_cases e:j'=j
      ·subst e;exact hh
      ·exact hrow.out j' h1 (by omega)
     have HNO:Hid (oJ l a (us,be.map Ex.xs) vs ms i j=false->R=false):=by
      intro hh
      cases e:R
      ·rfl
      ·have:=HT.out.1 e i hlt j hlj (by omega)
       rw[this]at hh;cases hh
     have HAP:=(show Hid _ from AP);have HAR:=(show Hid _ from AR);clear AP AR hall hrow hG hA;generalize iK vs (be.map Ex.xs) be.length i=X at *;generalize iK vs (be.map Ex.xs) be.length j=Y at *
     cases hb:gW us.length (jZ l a us) i j
     ·have HM:=(show Hid _ from HYE.out (by rw[HKPij.out,hb];rfl))
      rw[hb]at HAP;clear HNO HYE
      go_upto_region 9 with fail
      go_quiet (first | (go_at_call 215;exact Calls.quiet_of_same (HAP.out _)))
      go_wp2
      go_roundg (be.length-(j+1))
      case measure=>omega
      case rel=>exact⟨j+1,by omega,by omega,rfl,by go_num,HM.out,hK2.drewN _⟩
     ·rw[hb]at HAP
      cases hc:uX vs.length ms X Y
      ·have HM:=(show Hid _ from HNO.out (by rw[HKPij.out,hb,hc];rfl))
       rw[hc]at HAR;clear HNO HYE
       go_upto_region 9 with fail
       go_quiet (first | (go_at_call 215;exact Calls.quiet_of_same (HAP.out _)) | (go_at_call 277;exact Calls.quiet_of (HAR.out _)))
       go_wp2;go_ret;exact⟨aB HM.out.symm,K2.trans (hK2.drewN _)⟩
      ·have HM:=(show Hid _ from HYE.out (by rw[HKPij.out,hb,hc];rfl))
       rw[hc]at HAR;clear HNO HYE
       go_upto_region 9 with fail
       go_quiet (first | (go_at_call 215;exact Calls.quiet_of_same (HAP.out _)) | (go_at_call 277;exact Calls.quiet_of (HAR.out _)))
       go_wp2
       go_roundg (be.length-(j+1))
       case measure=>omega
       case rel=>exact⟨j+1,by omega,by omega,rfl,by go_num,HM.out,hK2.drewN _⟩
    ·have HN:Hid (∀i',i'<i+1->∀j',j'<be.length->i'<j'->oJ l a (us,be.map Ex.xs) vs ms i' j'=true):=by
      intro i' h1 j' h2 h3
      by_cases e:i'=i
      ·subst e;exact hrow.out j' h3 (by omega)
      ·exact hall.out i' (by omega) j' h2 h3
     clear hrow hall;go_wp2
     go_roundg (be.length-(i+1))
     case measure=>omega
     case rel=>exact⟨i+1,by omega,rfl,by go_num,HN,hK2⟩
  ·have HM:Hid (R=true):=HT.out.2 (fun i' h1 j' h2 h3=>hall.out i' (by omega) j' h2 h3)
   clear hall;go_wp2;go_ret;exact⟨aB HM.out.symm,K2.trans hK⟩
def zs(l:List St)(a n:Nat):Option ByteArray:=match l[n]? with
 | some s=>if(s.kind==2)=true/\im l n a=true then some (a8 s) else none
 | none=>none
def oB(l:List St)(a k:Nat):List ByteArray:=(List.range k).filterMap (zs l a)
def v7(l:List St)(a:Nat):List ByteArray:=oB l a l.length
theorem Fv(l:List St)(a k:Nat)(h:k<l.length)(h1:(l[k].kind==2)=true)(h2:im l k a=true):oB l a (k+1)=oB l a k++[a8 l[k]]:=by
 unfold oB;rw[List.range_succ,List.filterMap_append];simp[zs,h,h1,h2]
theorem Jc(l:List St)(a k:Nat)(h:k<l.length)(h1:(l[k].kind==2)=false∨im l k a=false):oB l a (k+1)=oB l a k:=by
 unfold oB;rw[List.range_succ,List.filterMap_append]
 have:zs l a k=none:=by
  unfold zs;rw[List.getElem?_eq_getElem h];simp only;rw[if_neg];rintro ⟨q1,q2⟩
  rcases h1 with h1 | h1
  ·rw[h1]at q1;cases q1
  ·rw[h1]at q2;cases q2
 simp[this]
theorem yl(l:List St)(a k:Nat):(oB l a k).length<=k:=by
 have:=List.length_filterMap_le (zs l a) (List.range k);unfold oB;simpa using this
set_option maxRecDepth 100000 in
theorem oy(b o a:Nat)(l:List St)(H:Nat->Hd)(w:World)(h:ev w b o l H)(ok:jH l) :
  Calls Tryz.prog 208 #[.pointer (some ⟨b,o,none⟩),.int .i64 a] w fun e w'=>∃hd:Hd,e=.returned (.slice hd.ao (v7 l a).length hd.cap)/\aA w' hd (aD (v7 l a))/\(∀x,hd.blk=some x->w.heap.size<=x)/\ab [] w w':=by
 obtain⟨i0,hi,hz0,hz1,hz2⟩:=info_parts jI;have hlen:=ok.len;go_enter Tryz.func208,Tryz.ntmps208;go_wp2
 go_loopg [5,6] l.length (fun gk sv i wr=>∃(k:Nat) (hd:Hd),k<=l.length/\gk=l.length-k/\i=.int .i64 k/\sv=.slice hd.ao (oB l a k).length hd.cap/\aA wr hd (aD (oB l a k))/\(∀x,hd.blk=some x->w.heap.size<=x)/\ab [] w wr)
 case atStart=>exact⟨0,⟨none,0⟩,by omega,by omega,rfl,rfl,World.ownsRow_nil _ _ _ _,by intro x hx;simp[Hd.blk]at hx,ab.refl _ _⟩
 case round =>
  obtain⟨k,hd,hk,hg,rfl,rfl,hO,hN,hK⟩:=hrel;have hr:=h.still hK;have hal:=yl l a k
  by_cases hlt:k<l.length
  ·have hsl:=ok.syms k hlt
   have HY:=(show Hid _ from Fv l a k hlt);have HN0:=(show Hid _ from Jc l a k hlt);have VA:=mW l[k] (H (10+2*k)) (H (11+2*k));unfold eG at VA;have HVA:=(show Hid _ from VA);clear VA
   go_upto_region 6 with (first | (go_at_call 80;refine(dQ b o l H _ (by exact hr)).mono ?_;rintro e wc ⟨rfl,hwc⟩;rw[hwc]) | (go_at_call 97;refine(bb b o k l H _ (by exact hr) hlt).mono ?_;rintro e w3 ⟨rfl,hk3⟩;unfold eG))
   obtain⟨W4,hW4⟩:∃W4,W4=w3.alloc (.cells #[.int .i64 l[k].kind,.string l[k].label,.slice (H (10+2*k)).ao l[k].symbols.length (H (10+2*k)).cap,.slice (H (11+2*k)).ao l[k].proof.length (H (11+2*k)).cap,.string l[k].fin.file,.int .i64 l[k].fin.line,.int .i64 l[k].fin.col,.int .i64 l[k].til] 158):=⟨_,rfl⟩
   have hk4:ab [] wr W4:=by rw[hW4];exact hk3.alloc _
   have B4:W4.heap[w3.heap.size]?=some (.cells #[.int .i64 l[k].kind,.string l[k].label,.slice (H (10+2*k)).ao l[k].symbols.length (H (10+2*k)).cap,.slice (H (11+2*k)).ao l[k].proof.length (H (11+2*k)).cap,.string l[k].fin.file,.int .i64 l[k].fin.line,.int .i64 l[k].fin.col,.int .i64 l[k].til] 158 (0,0)):=by rw[hW4];exact heap_alloc_new _ _
   rw[<-hW4];clear hW4;have u0:W4.cell? ⟨w3.heap.size,0,none⟩=some (.int .i64 l[k].kind):=by rw[aa B4];rfl
   have u1:W4.cell? ⟨w3.heap.size,1,none⟩=some (.string l[k].label):=by rw[aa B4];rfl
   have u2:W4.cell? ⟨w3.heap.size,2,none⟩=some (.slice (H (10+2*k)).ao l[k].symbols.length (H (10+2*k)).cap):=by rw[aa B4];rfl
   have u3:W4.cell? ⟨w3.heap.size,3,none⟩=some (.slice (H (11+2*k)).ao l[k].proof.length (H (11+2*k)).cap):=by rw[aa B4];rfl
   have u4:W4.cell? ⟨w3.heap.size,4,none⟩=some (.string l[k].fin.file):=by rw[aa B4];rfl
   have u5:W4.cell? ⟨w3.heap.size,5,none⟩=some (.int .i64 l[k].fin.line):=by rw[aa B4];rfl
   have u6:W4.cell? ⟨w3.heap.size,6,none⟩=some (.int .i64 l[k].fin.col):=by rw[aa B4];rfl
   have u7:W4.cell? ⟨w3.heap.size,7,none⟩=some (.int .i64 l[k].til):=by rw[aa B4];rfl
   have hr4:=hr.still hk4;have hO4:aA W4 hd (aD (oB l a k)):=hO.moved (fun x hx=>hk4.block x (hO.lt hx) (by simp));have hV4:=(hr4.sts.syms k l[k] (List.getElem?_eq_getElem hlt)).view;have hK4:=hK.trans hk4
   cases h2:(l[k].kind==2)
   ·have HT:=(show Hid _ from HN0.out (Or.inl h2))
    clear HY HN0;go_wp2
    go_roundg (l.length-(k+1))
    case measure=>omega
    case rel=>exact⟨k+1,hd,by omega,rfl,by go_num,by rw[HT.out],by rw[HT.out];exact hO4,hN,hK4⟩
   ·cases hh:im l k a
    ·have HT:=(show Hid _ from HN0.out (Or.inr hh))
     clear HY HN0;go_wp2_with (go_at_call 187;refine(fB b o k a l H _ (by exact hr4) hlt).mono ?_;rintro e wd ⟨rfl,hwd⟩;rw[hwd,hh])
     go_roundg (l.length-(k+1))
     case measure=>omega
     case rel=>exact⟨k+1,hd,by omega,rfl,by go_num,by rw[HT.out],by rw[HT.out];exact hO4,hN,hK4⟩
    ·have HT:=(show Hid _ from HY.out h2 hh)
     clear HY HN0;go_wp2_with (first | (go_at_call 187;refine(fB b o k a l H _ (by exact hr4) hlt).mono ?_;rintro e wd ⟨rfl,hwd⟩;rw[hwd,hh]) | (go_at_call 189;refine(HVA.out _ (by exact hV4) (by omega)).mono ?_;rintro e w5 ⟨rfl,k5⟩;have hO5:=hO4.moved (fun x hx=>(k5.alloc (.cells #[.string (a8 l[k])] 9)).block x (hO4.lt hx) (by simp))) | (at_builtin;refine aM _ rfl (.tmp 26) (.tmp 29) 61 rfl i0 (.string ⟨#[]⟩) 16 hd (aD (oB l a k)) Tryz.underlying61 hi hz0 hz1 hz2 rfl Nat.one_pos rfl (by exact hO5) ⟨_,0,none⟩ 1 1 [.string (a8 l[k])] rfl rfl ?d1 ?d2 Nat.one_pos ?d3 ?d4 ?_))
     case d1=>intro j u hj;match j,hj with | 0,hj=>simp at hj;subst hj;simp[Addr.add]
     case d2=>intro u hu;simp at hu;subst hu;rfl
     case d3=>simp only[aD];unfold maxLen;omega
     case d4=>simp only[aD];omega
     intro g6 cap6 w6 hw6 hgr6 hfresh6;rw[dS (oB l a k) (a8 l[k]),<-HT.out]at hw6;have hK5:=(hK4.trans k5).alloc (.cells #[.string (a8 l[k])] 9);have hK6:=hK5.grown hgr6 hN
     have hg6:w.heap.size<=g6:=by
      rcases hfresh6 with e | e
      ·exact hN g6 e
      ·have:=hK5.size;simp at e this;omega
     have hEl:Hid ((aD (oB l a k)).n+1=(oB l a (k+1)).length):=by show _=_;rw[HT.out];simp[aD]
     rw[hEl.out];clear hgr6 hfresh6 hO5;go_wp2
     go_roundg (l.length-(k+1))
     case measure=>omega
     case rel=>exact⟨k+1,⟨some ⟨g6,0,none⟩,cap6⟩,by omega,rfl,by go_num,rfl,hw6,by intro x hx;simp[Hd.blk]at hx;omega,hK6⟩
  ·have e:k=l.length:=by omega
   subst e;go_wp2_with (go_at_call 80;refine(dQ b o l H _ (by exact hr)).mono ?_;rintro e wc ⟨rfl,hwc⟩;rw[hwc]);go_ret;exact⟨hd,rfl,hO,hN,hK⟩
def Ld:St:=⟨0,⟨#[]⟩,[],[],⟨⟨#[]⟩,0,0⟩,0⟩
abbrev JV:=List ByteArray×List (List ByteArray)
def mN(l:List St):List Nat->List (List ByteArray)->JV->Int×JV
 | h :: hs,e :: es,S=>if((lA (l.getD h Ld) e S).1==0)=true then mN l hs es (lA (l.getD h Ld) e S).2 else lA (l.getD h Ld) e S
 | _,_,S=>(0,S)
def qM(l:List St)(n:Nat)(vs:List ByteArray)(ms:List Bool)(sy:List ByteArray)(R:Int×JV):Int×List ByteArray :=
 if(R.1==0)=true then(if yi l n R.2 vs ms=true then(0,mh R.2.1 R.2.2 sy) else(9,[])) else(R.1,[])
def gU(l:List St)(n:Nat)(vs:List ByteArray)(ms:List Bool)(th:List (List ByteArray)):Int×List ByteArray :=
 if th.length<(bE l n).length then(6,[])
 else qM l n vs ms (l.getD n Ld).symbols (mN l (bE l n) (th.drop (th.length-(bE l n).length)) ([],[]))
theorem wN(l:List St)(k:Nat)(h:k<l.length):l.getD k Ld=l[k]:=by rw[List.getD_eq_getElem?_getD,List.getElem?_eq_getElem h];rfl
theorem DR(l:List St)(hs:List Nat)(es:List (List ByteArray))(S:JV)(i:Nat)(h1:i<hs.length)(h2:i<es.length)(hl:hs[i]<l.length) :
  mN l (hs.drop i) (es.drop i) S=if((lA l[hs[i]] es[i] S).1==0)=true then mN l (hs.drop (i+1)) (es.drop (i+1)) (lA l[hs[i]] es[i] S).2 else lA l[hs[i]] es[i] S:=by
 rw[List.drop_eq_getElem_cons h1,List.drop_eq_getElem_cons h2,mN,wN l _ hl]
theorem Cj(l:List St)(hs:List Nat)(es:List (List ByteArray))(S:JV)(i:Nat)(h1:¬i<hs.length):mN l (hs.drop i) es S=(0,S):=by
 rw[List.drop_of_length_le (by omega)];cases es <;> rfl
structure In(S:JV)(N:Nat):Prop where
 one:S.1.length<=N
 two:∀y∈S.2,y.length<=10000
theorem JS(s:St)(e:List ByteArray)(S:JV)(N:Nat)(h:In S N)(he:e.length<=10000):In (lA s e S).2 (N+1):=by
 have h1:=h.one;unfold lA
 split
 ·split <;> exact⟨by simp only;omega,h.two⟩
 ·split
  ·exact⟨by simp only;omega,h.two⟩
  ·next x r =>
   split
   ·refine⟨by simp;omega,fun y hy=>?_⟩
    simp at hy
    rcases hy with hy | rfl
    ·exact h.two y hy
    ·simp at he;omega
   ·exact⟨by simp only;omega,h.two⟩
theorem Fk(l:List St)(a k:Nat):∀x∈eO l a k,x<k:=by
 induction k with
 | zero=>intro x hx;simp[eO]at hx
 | succ k ih =>
  intro x hx
  cases h:oY l (gC l a) a k
  ·rw[qD l a k h]at hx
   have:=ih x hx;omega
  ·rw[t7 l a k h]at hx
   simp at hx
   rcases hx with hx | rfl
   ·have:=ih x hx;omega
   ·omega
theorem zi{l:List St}{a x:Nat}(h:x∈bE l a):x<l.length:=Fk l a l.length x h
theorem aA.cutE{w:World}{h:Hd}{l:List Ex}(o:aA w h (fn l))(c:Nat)(hc:c<=l.length):aA w h (fn (l.take c)):=by
 have hlen:(l.take c).length=c:=by simp;omega
 refine⟨by simp[fn,zn],?_⟩
 rcases o.2 with ⟨hv,hn⟩ | ⟨g,cap,cur,hv,hb,hh,h1,h2,h3,h4⟩
 ·left
  have:l.length=0:=hn;have hl:l=[]:=List.eq_nil_of_length_eq_zero this;subst hl;simp[fn]at hv ⊢;exact hv
 ·right
  have h1':l.length<=cap:=h1;refine⟨g,cap,cur,?_,hb,hh,?_,h2,h3,?_⟩
  ·injection hv with a1 a2 a3
   simp only[fn];rw[a1,a3]
  ·show(l.take c).length<=cap
   omega
  ·show cur.toList.take ((l.take c).length*1)=zn (l.take c)
   have h4':cur.toList.take (l.length*1)=zn l:=h4;rw[hlen];unfold zn at h4' ⊢;rw[List.map_take,<-h4',List.take_take]
   congr 1
   omega
def nj(sh th:List Ex):Nat->dK
 | 0=>fn sh
 | 1=>fn th
 | _+2=>fn []
def fO(rb ro g n tb:Nat)(sh th:List Ex)(H:Nat->Hd):List Value :=
 [.pointer (some ⟨rb,ro,none⟩),.slice (some ⟨g,0,none⟩) n n,.pointer (some ⟨tb,0,none⟩),.slice (H 0).ao sh.length (H 0).cap,.slice (H 1).ao th.length (H 1).cap]
structure rE(w:World)(b rb ro g n tb:Nat)(sh th:List Ex)(H:Nat->Hd):Prop where
 bag:aR w b 307 (fO rb ro g n tb sh th H) (nj sh th) H
 shs:∀e∈sh,pA w b H e.hd e.xs/\e.xs.length<=32
 ths:∀e∈th,pA w b H e.hd e.xs/\e.xs.length<=32
theorem rE.still{w w':World}{b rb ro g n tb:Nat}{sh th:List Ex}{H:Nat->Hd}(h:rE w b rb ro g n tb sh th H)(k:ab [] w w'):rE w' b rb ro g n tb sh th H :=
 ⟨h.bag.still k,fun e he=>⟨(h.shs e he).1.still k,(h.shs e he).2⟩,fun e he=>⟨(h.ths e he).1.still k,(h.ths e he).2⟩⟩
theorem rE.ctx{w:World}{b rb ro g n tb:Nat}{sh th:List Ex}{H:Nat->Hd}(h:rE w b rb ro g n tb sh th H):vg w b rb ro g n tb:=⟨_,_,h.bag.blk,rfl,rfl,rfl⟩
theorem rE.cells{w:World}{b rb ro g n tb:Nat}{sh th:List Ex}{H:Nat->Hd}(h:rE w b rb ro g n tb sh th H) :
  w.cell? ⟨b,3,none⟩=some (.slice (H 0).ao sh.length (H 0).cap)/\w.cell? ⟨b,4,none⟩=some (.slice (H 1).ao th.length (H 1).cap):=⟨h.bag.cell 3,h.bag.cell 4⟩
structure Ce(w:World)(rb ro g tb:Nat)(l:List St)(HR K:Nat->Hd)(vs:List ByteArray)(ms:List Bool)(hv hm:Hd):Prop where
 recd:ev w rb ro l HR
 ok:jH l
 all:fJ w g l l.length K
 ap:jE w tb vs ms hv hm
 hml:ms.length=vs.length*vs.length
 hvl:vs.length<=10000
theorem Ce.still{w w':World}{rb ro g tb:Nat}{l:List St}{HR K:Nat->Hd}{vs:List ByteArray}{ms:List Bool}{hv hm:Hd}(h:Ce w rb ro g tb l HR K vs ms hv hm)(k:ab [] w w'):Ce w' rb ro g tb l HR K vs ms hv hm :=
 ⟨h.recd.still k,h.ok,h.all.still k,h.ap.still k,h.hml,h.hvl⟩
structure kJ(w0 w:World)(b rb ro g n tb:Nat)(sh th:List Ex)(H:Nat->Hd):Prop where
 ply:rE w b rb ro g n tb sh th H
 kept:ab [] w0 w
 hb:w0.heap.size<=b
 hin:∀x,fk H x->w0.heap.size<=x
theorem kJ.still{w0 w w':World}{b rb ro g n tb:Nat}{sh th:List Ex}{H:Nat->Hd}(h:kJ w0 w b rb ro g n tb sh th H)(k:ab [] w w'):kJ w0 w' b rb ro g n tb sh th H :=
 ⟨h.ply.still k,h.kept.trans k,h.hb,h.hin⟩
end Go.Proofs.YtpddjjabfbfifaaGreat

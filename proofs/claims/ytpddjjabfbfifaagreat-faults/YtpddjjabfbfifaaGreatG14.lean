import Derived.BigQuiet
import Derived.Test.YtpddjjabfbfifaaGreatG13
namespace Go.Proofs.YtpddjjabfbfifaaGreat
open Go.RowKit
set_option maxHeartbeats 40000000
theorem JW:(Tryz.prog.info? 26).map (fun i=>(i.zero,i.size,i.bytes))=some (some (.slice none 0 0),1,24):=by kernel_rfl
theorem xd(v:Value)(n i:Nat)(h:i<n):(madeCells #[v] n)[i]?=some v:=by
 simp[madeCells,h,Nat.mod_one]
def qk(l:List St)(n:Nat):Bool:=match l[n]? with | some s=>CG s.kind | none=>false
theorem wG(l:List St)(n:Nat)(h:n<l.length):qk l n=CG l[n].kind:=by
 unfold qk;rw[List.getElem?_eq_getElem h]
def kp(l:List St)(k n:Nat):List Nat:=if n<k/\qk l n=true then bE l n else []
structure fJ(w:World)(g:Nat)(l:List St)(k:Nat)(K:Nat->Hd):Prop where
 arr:∃arr,w.heap[g]?=some (.cells arr 26 (0,0))/\arr.size=l.length/\∀n,n<l.length->arr[n]?=some (.slice (K n).ao (kp l k n).length (K n).cap)
 own:∀n,n<l.length->aA w (K n) (bq (kp l k n))
 off:∀n,(K n).blk≠some g
theorem fJ.kept{w w':World}{g:Nat}{l:List St}{k:Nat}{K:Nat->Hd}{S:List Nat}(h:fJ w g l k K)(q:ab S w w')(hg:g∉S)(hK:∀n x,(K n).blk=some x->x∉S):fJ w' g l k K:=by
 obtain⟨arr,h1,h2,h3⟩:=h.arr;exact⟨⟨arr,q.get h1 hg,h2,h3⟩,fun n hn=>(h.own n hn).moved (fun x hx=>q.block x ((h.own n hn).lt hx) (hK n x hx)),h.off⟩
theorem fJ.still{w w':World}{g:Nat}{l:List St}{k:Nat}{K:Nat->Hd}(h:fJ w g l k K)(q:ab [] w w'):fJ w' g l k K:=h.kept q (by simp) (by simp)
theorem fJ.cell{w:World}{g:Nat}{l:List St}{k:Nat}{K:Nat->Hd}(h:fJ w g l k K)(n:Nat)(hn:n<l.length):w.cell? ⟨g,n,none⟩=some (.slice (K n).ao (kp l k n).length (K n).cap):=by
 obtain⟨arr,h1,h2,h3⟩:=h.arr;rw[aa h1];exact h3 n hn
theorem fJ.free{w:World}{g:Nat}{l:List St}{k:Nat}{K:Nat->Hd}(h:fJ w g l k K)(n:Nat):w.frozen? ⟨g,n,none⟩=false:=by
 obtain⟨arr,h1,h2,h3⟩:=h.arr;exact ak h1 n
theorem fJ.lt{w:World}{g:Nat}{l:List St}{k:Nat}{K:Nat->Hd}(h:fJ w g l k K):g<w.heap.size:=by
 obtain⟨arr,h1,h2,h3⟩:=h.arr;exact ae h1
theorem fJ.skip{w:World}{g:Nat}{l:List St}{k:Nat}{K:Nat->Hd}(h:fJ w g l k K)(hk:qk l k=false):fJ w g l (k+1) K:=by
 have e:∀n,kp l (k+1) n=kp l k n:=by
  intro n;unfold kp
  by_cases en:n=k
  ·subst en;rw[if_neg (by rw[hk];simp),if_neg (by rw[hk];simp)]
  ·have:(n<k+1/\qk l n=true) ↔ (n<k/\qk l n=true):=and_congr_left (fun _=>by omega)
   simp only[this]
 obtain⟨arr,h1,h2,h3⟩:=h.arr;exact⟨⟨arr,h1,h2,fun n hn=>by rw[e];exact h3 n hn⟩,fun n hn=>by rw[e];exact h.own n hn,h.off⟩
theorem fJ.store{w:World}{g:Nat}{l:List St}{k:Nat}{K:Nat->Hd}(h:fJ w g l k K)(hk:qk l k=true)(hkl:k<l.length)(hd:Hd)(o:aA w hd (bq (bE l k)))(hg:hd.blk≠some g) :
  fJ (w.setCell ⟨g,k,none⟩ (.slice hd.ao (bE l k).length hd.cap)) g l (k+1) (fI K k hd):=by
 have e:∀n,n≠k->kp l (k+1) n=kp l k n:=by
  intro n en;unfold kp;have:(n<k+1/\qk l n=true) ↔ (n<k/\qk l n=true):=and_congr_left (fun _=>by omega);simp only[this]
 have ek:kp l (k+1) k=bE l k:=by unfold kp;rw[if_pos ⟨by omega,hk⟩]
 obtain⟨arr,h1,h2,h3⟩:=h.arr;refine⟨⟨_,ah h1 _ _,by simpa using h2,?_⟩,?_,?_⟩
 ·intro n hn
  by_cases en:n=k
  ·subst en
   rw[cG,ek];simp[h2,hn]
  ·rw[bL _ _ _ _ en,e n en]
   rw[Array.getElem?_setIfInBounds_ne (by omega)];exact h3 n hn
 ·intro n hn
  by_cases en:n=k
  ·subst en
   rw[cG,ek];exact o.moved (fun x hx=>Below.heap_setCell _ _ _ _ (by rintro rfl;exact hg hx))
  ·rw[bL _ _ _ _ en,e n en]
   exact(h.own n hn).moved (fun x hx=>Below.heap_setCell _ _ _ _ (by rintro rfl;exact h.off n hx))
 ·intro n
  by_cases en:n=k
  ·subst en;rw[cG];exact hg
  ·rw[bL _ _ _ _ en];exact h.off n
set_option maxRecDepth 100000 in
theorem qw(b o:Nat)(l:List St)(H:Nat->Hd)(w:World)(h:ev w b o l H)(ok:jH l) :
  Calls Tryz.prog 113 #[.pointer (some ⟨b,o,none⟩)] w fun e w'=>∃(g:Nat) (K:Nat->Hd),e=.returned (.slice (some ⟨g,0,none⟩) l.length l.length)/\fJ w' g l l.length K/\w.heap.size<=g/\(∀n x,(K n).blk=some x->w.heap.size<=x)/\ab [] w w':=by
 obtain⟨i0,hi,hz0,hz1,hz2⟩:=info_parts JW;have hlen:=ok.len;have hbw:=h.lt;have m1:=fun w=>dn (P:=Tryz.prog) w 181 26 i0 _ Tryz.underlying181 hi hz0 l.length 1 hz1 (by rw[hz2];omega) (by omega)
 obtain⟨mc,hmc⟩:∃mc,mc=madeCells (Value.slice none 0 0).cells (l.length*1):=⟨_,rfl⟩
 rw[<-hmc]at m1
 have A0:Hid (fJ (w.alloc (.cells mc 26)) w.heap.size l 0 ld):=by
  refine⟨⟨mc,heap_alloc_new _ _,by rw[hmc,size_madeCells];omega,?_⟩,?_,fun n e=>by simp[ld,Hd.blk]at e⟩
  ·intro n hn
   have e:kp l 0 n=[]:=by unfold kp;rw[if_neg (by omega)]
   rw[e,hmc];exact xd _ _ _ (by omega)
  ·intro n hn
   have e:kp l 0 n=[]:=by unfold kp;rw[if_neg (by omega)]
   rw[e];exact World.ownsRow_nil _ _ _ _
 clear hmc;go_enter Tryz.func113,Tryz.ntmps113;go_wp2_with (go_at_call 80;refine(dQ b o l H _ (by exact h)).mono ?_;rintro e wc ⟨rfl,hwc⟩;rw[hwc])
 go_loopg [4] l.length (fun gk i wr=>∃(k:Nat) (K:Nat->Hd),k<=l.length/\gk=l.length-k/\i=.int .i64 k/\fJ wr w.heap.size l k K/\(∀n x,(K n).blk=some x->w.heap.size<=x)/\ab [] w wr)
 case atStart=>exact⟨0,ld,by omega,by omega,rfl,A0.out,fun n x hx=>by simp[ld,Hd.blk]at hx,(ab.refl _ _).alloc _⟩
 case round =>
  obtain⟨k,K,hk,hg,rfl,hA,hN,hK⟩:=hrel;have hr:=h.still hK;clear A0 m1
  by_cases hlt:k<l.length
  ·have HI:=(show Hid _ from wG l k hlt)
   cases ha:CG l[k].kind
   ·have HS:Hid (fJ wr w.heap.size l (k+1) K):=hA.skip (by rw[HI.out,ha])
    clear HI;go_wp2_with (first | (go_at_call 97;refine(bb b o k l H _ (by exact hr) hlt).mono ?_;rintro e w3 ⟨rfl,hk3⟩;unfold eG) | (go_at_call 160;refine(du l[k].kind _ _ _ _ _ _ _ _).mono ?_;rintro e w4 ⟨rfl,hk4⟩))
    go_roundg (l.length-(k+1))
    case measure=>omega
    case rel=>exact⟨k+1,K,by omega,rfl,by go_num,(HS.out.still hk3).still hk4,hN,(hK.trans hk3).trans hk4⟩
   ·go_wp2_with (first | (go_at_call 97;refine(bb b o k l H _ (by exact hr) hlt).mono ?_;rintro e w3 ⟨rfl,hk3⟩;unfold eG) | (go_at_call 160;refine(du l[k].kind _ _ _ _ _ _ _ _).mono ?_;rintro e w4 ⟨rfl,hk4⟩))
    have hk34:=hk3.trans hk4;refine(nM b o k l H _ (hr.still hk34) hlt ok).mono ?_;rintro e w5 ⟨hd,rfl,hO5,hN5,hk5⟩;have hA5:=(hA.still hk34).still hk5;have hgl:=(hA.still hk34).lt;have hng:hd.blk≠some w.heap.size:=fun e=>by have:=hN5 _ e;omega
    have HS:=(show Hid _ from hA5.store (by rw[HI.out,ha]) hlt hd hO5 hng);have hK5:=(hK.trans hk34).trans hk5;have hs3:=(hK.trans hk34).size
    have HN':Hid (∀n x,(fI K k hd n).blk=some x->w.heap.size<=x):=by
     intro n x hx
     by_cases e:n=k
     ·subst e;rw[cG]at hx;have:=hN5 x hx;omega
     ·rw[bL _ _ _ _ e]at hx;exact hN n x hx
    have c1:=hA5.cell k hlt;have hf:=hA5.free;clear hN5 hO5;go_wp2
    go_roundg (l.length-(k+1))
    case measure=>omega
    case rel=>exact⟨k+1,fI K k hd,by omega,rfl,by go_num,HS.out,HN'.out,hK5.setCell (Or.inr (Nat.le_refl _)) _⟩
  ·have e:k=l.length:=by omega
   subst e;go_wp2;go_ret;exact⟨w.heap.size,K,rfl,hA,Nat.le_refl _,hN,hK⟩
def ox(vs:List ByteArray)(x:ByteArray):Option Nat:=(List.range vs.length).find? (fun i=>(vs.getD i ⟨#[]⟩).toList==x.toList)
def pY(l:List Bool):List Value:=l.map Value.bool
def nt(l:List Bool):dK:=⟨4,1,l.length,pY l⟩
structure jE(w:World)(tb:Nat)(vs:List ByteArray)(ms:List Bool)(hv hm:Hd):Prop where
 blk:w.heap[tb]?=some (.cells #[.slice hv.ao vs.length hv.cap,.slice hm.ao ms.length hm.cap] 327 (0,0))
 vars:aA w hv (aD vs)
 marks:aA w hm (nt ms)
 o1:hv.blk≠some tb
 o2:hm.blk≠some tb
 o3:hv.blk=none∨hv.blk≠hm.blk
theorem jE.cells{w:World}{tb:Nat}{vs:List ByteArray}{ms:List Bool}{hv hm:Hd}(h:jE w tb vs ms hv hm):w.cell? ⟨tb,0,none⟩=some (.slice hv.ao vs.length hv.cap)/\w.cell? ⟨tb,1,none⟩=some (.slice hm.ao ms.length hm.cap):=by
 refine⟨?_,?_⟩ <;> (rw[aa h.blk];rfl)
theorem jE.lt{w:World}{tb:Nat}{vs:List ByteArray}{ms:List Bool}{hv hm:Hd}(h:jE w tb vs ms hv hm):tb<w.heap.size:=ae h.blk
theorem jE.kept{w w':World}{tb:Nat}{vs:List ByteArray}{ms:List Bool}{hv hm:Hd}{S:List Nat}(h:jE w tb vs ms hv hm)(k:ab S w w')(h1:tb∉S)(h2:∀x,hv.blk=some x∨hm.blk=some x->x∉S):jE w' tb vs ms hv hm :=
 ⟨k.get h.blk h1,h.vars.moved (fun x hx=>k.block x (h.vars.lt hx) (h2 x (Or.inl hx))),h.marks.moved (fun x hx=>k.block x (h.marks.lt hx) (h2 x (Or.inr hx))),h.o1,h.o2,h.o3⟩
theorem jE.still{w w':World}{tb:Nat}{vs:List ByteArray}{ms:List Bool}{hv hm:Hd}(h:jE w tb vs ms hv hm)(k:ab [] w w'):jE w' tb vs ms hv hm:=h.kept k (by simp) (by simp)
theorem qy(tb:Nat)(vs:List ByteArray)(ms:List Bool)(hv hm:Hd)(x:ByteArray)(w:World)(h:jE w tb vs ms hv hm)(hl:vs.length<=1073741824) :
  Calls Tryz.prog 260 #[.pointer (some ⟨tb,0,none⟩),.string x] w fun e w'=>e=.returned (.int .i64 (nX (ox vs x)))/\w'=w:=by
 obtain⟨c0,c1⟩:=h.cells;go_enter Tryz.func260,Tryz.ntmps260;go_wp2
 go_loopg [5] vs.length (fun g i wr=>∃k:Nat,k<=vs.length/\g=vs.length-k/\i=.int .i64 k/\Hid (∀i,i<k->((vs.getD i ⟨#[]⟩).toList==x.toList)=false)/\wr=w)
 case atStart=>exact⟨0,by omega,by omega,rfl,fun i hi=>by omega,rfl⟩
 case round =>
  obtain⟨k,hk,hg,rfl,hall,rfl⟩:=hrel
  by_cases hlt:k<vs.length
  ·rcases h.vars.ways with ⟨_,h0,_⟩ | ⟨g,cur,e1,-,e3,-⟩
   ·have:vs.length=0:=h0
    omega
   ·have c2:=h.vars.cell e1 k (.string vs[k]) (p9 vs k hlt)
    rw[e1]at c0;have HG:=(show Hid _ from sI vs k hlt);have hcp:vs.length<=hv.cap:=e3;generalize vs[k]=y at *
    cases hb:(y.toList==x.toList)
    ·have HN:Hid (∀i,i<k+1->((vs.getD i ⟨#[]⟩).toList==x.toList)=false):=by
      intro i hi
      by_cases e:i=k
      ·subst e;rw[HG.out];exact hb
      ·exact hall.out i (by omega)
     clear HG h;go_wp2
     go_roundg (vs.length-(k+1))
     case measure=>omega
     case rel=>exact⟨k+1,by omega,rfl,by go_num,HN,rfl⟩
    ·have HF:Hid (ox vs x=some k):=ob hlt (by rw[HG.out];exact hb) hall.out
     clear HG h;go_wp2;go_ret;exact⟨am (by rw[HF.out];rfl),rfl⟩
  ·have HF:Hid (ox vs x=none):=mU (fun i hi=>hall.out i (by omega))
   clear h;go_wp2;go_ret;exact⟨am (by rw[HF.out];rfl),rfl⟩
def bO(vs ws:List ByteArray):List Nat:=ws.filterMap (ox vs)
theorem tW(vs ws:List ByteArray)(k p:Nat)(h:k<ws.length)(hp:ox vs ws[k]=some p):bO vs (ws.take (k+1))=bO vs (ws.take k)++[p]:=by
 unfold bO;rw[mo ws k h,List.filterMap_append];simp[hp]
theorem uE(vs ws:List ByteArray)(k:Nat)(h:k<ws.length)(hp:ox vs ws[k]=none):bO vs (ws.take (k+1))=bO vs (ws.take k):=by
 unfold bO;rw[mo ws k h,List.filterMap_append];simp[hp]
theorem oM(vs ws:List ByteArray):(bO vs ws).length<=ws.length:=List.length_filterMap_le _ _
set_option maxRecDepth 100000 in
theorem vh(tb:Nat)(vs:List ByteArray)(ms:List Bool)(hv hm hw:Hd)(ws:List ByteArray)(w:World)(h:jE w tb vs ms hv hm)(hl:vs.length<=1073741824)(hvw:jg w hw ws)(hwl:ws.length<=1000000) :
  Calls Tryz.prog 238 #[.pointer (some ⟨tb,0,none⟩),.slice hw.ao ws.length hw.cap] w fun e w'=>∃hd:Hd,e=.returned (.slice hd.ao (bO vs ws).length hd.cap)/\aA w' hd (bq (bO vs ws))/\(∀x,hd.blk=some x->w.heap.size<=x)/\ab [] w w':=by
 obtain⟨i0,hi,hz0,hz1,hz2⟩:=info_parts vw;obtain⟨ao,cap⟩:=hw
 rcases hvw with rfl | ⟨g,off,cur,t,e1,e2,e3,e4,e5⟩
 ·clear hwl
  go_enter Tryz.func238,Tryz.ntmps238;go_wp2;refine wp_loop_rounds 1 ?_;rw[rounds_succ];go_wp2;go_ret;exact⟨⟨none,0⟩,rfl,World.ownsRow_nil _ _ _ _,by intro x hx;simp[Hd.blk]at hx,ab.refl _ _⟩
 simp only at e1;subst e1;go_enter Tryz.func238,Tryz.ntmps238;go_wp2
 go_loopg [5,6] ws.length (fun gk sv i wr=>∃(k:Nat) (hd:Hd),k<=ws.length/\gk=ws.length-k/\i=.int .i64 k/\sv=.slice hd.ao (bO vs (ws.take k)).length hd.cap/\aA wr hd (bq (bO vs (ws.take k)))/\(∀x,hd.blk=some x->w.heap.size<=x)/\ab [] w wr)
 case atStart=>exact⟨0,⟨none,0⟩,by omega,by omega,rfl,rfl,World.ownsRow_nil _ _ _ _,by intro x hx;simp[Hd.blk]at hx,ab.refl _ _⟩
 case round =>
  obtain⟨k,hd,hk,hg,rfl,rfl,hO,hN,hK⟩:=hrel;have hr:=h.still hK;have hlp:=oM vs (ws.take k);have hlt':(ws.take k).length<=k:=by simp;omega
  by_cases hlt:k<ws.length
  ·have c2:wr.cell? ⟨g,off+k,none⟩=some (.string ws[k]):=(aa (hK.get e2 (by simp)) (off+k)).trans (e3 k ws[k] (List.getElem?_eq_getElem hlt))
   ·skip
    have PS:=fun p=>tW vs ws k p hlt
    have PN:=uE vs ws k hlt;have HPS:=(show Hid _ from PS);have HPN:=(show Hid _ from PN);have PA:=qy tb vs ms hv hm ws[k] wr hr hl;have HPA:=(show Hid _ from PA);clear PS PN PA e3;generalize ws[k]=y at *
    rcases hp:ox vs y with _ | p
    ·have HT:=(show Hid _ from HPN.out hp)
     rw[hp]at HPA;simp only[nX]at HPA;clear HPS HPN;go_wp2_with (go_at_call 260;refine Calls.mono HPA.out ?_;rintro e w3 ⟨rfl,rfl⟩)
     go_roundg (ws.length-(k+1))
     case measure=>omega
     case rel=>exact⟨k+1,hd,by omega,rfl,by go_num,by rw[HT.out],by rw[HT.out];exact hO,hN,hK⟩
    ·have HT:=(show Hid _ from HPS.out p hp)
     rw[hp]at HPA;simp only[nX]at HPA;have hO4:=hO.moved (fun x hx=>((ab.refl [] wr).alloc (.cells #[.int .i64 p] 3)).block x (hO.lt hx) (by simp));clear HPS HPN;go_wp2_with (first | (go_at_call 260;refine Calls.mono HPA.out ?_;rintro e w3 ⟨rfl,hw3⟩;rw[hw3]) | (at_builtin;refine aM _ rfl (.tmp 22) (.tmp 24) 26 rfl i0 (.int .i64 0) 8 hd (bq (bO vs (ws.take k))) Tryz.underlying26 hi hz0 hz1 hz2 rfl Nat.one_pos rfl (by exact hO4) ⟨_,0,none⟩ 1 1 [.int .i64 p] rfl rfl ?d1 ?d2 Nat.one_pos ?d3 ?d4 ?_))
     case d1=>intro j u hj;match j,hj with | 0,hj=>simp at hj;subst hj;simp[Addr.add]
     case d2=>intro u hu;simp at hu;subst hu;rfl
     case d3=>simp only[bq];unfold maxLen;omega
     case d4=>simp only[bq];omega
     intro g5 cap5 w5 hw5 hgr5 hfresh5;rw[kT (bO vs (ws.take k)) p,<-HT.out]at hw5;have hK4:=hK.alloc (.cells #[.int .i64 p] 3);have hK5:=hK4.grown hgr5 hN
     have hg5:w.heap.size<=g5:=by
      rcases hfresh5 with e | e
      ·exact hN g5 e
      ·have:=hK4.size;simp at e this;omega
     have hEl:Hid ((bq (bO vs (ws.take k))).n+1=(bO vs (ws.take (k+1))).length):=by show _=_;rw[HT.out];simp[bq]
     rw[hEl.out];clear hgr5 hfresh5 hO4;go_wp2
     go_roundg (ws.length-(k+1))
     case measure=>omega
     case rel=>exact⟨k+1,⟨some ⟨g5,0,none⟩,cap5⟩,by omega,rfl,by go_num,rfl,hw5,by intro x hx;simp[Hd.blk]at hx;omega,hK5⟩
  ·have e:k=ws.length:=by omega
   subst e;rw[List.take_length]at hO ⊢;go_wp2;go_ret;exact⟨hd,rfl,hO,hN,hK⟩
def mQ(side mi:Nat)(mem:List Nat)(ms:List Bool):List Bool:=mem.foldl (fun ms mj=>ms.set (mi*side+mj) true) ms
def kZ(side:Nat)(mem:List Nat)(ms:List Bool):List Bool:=mem.foldl (fun ms mi=>mQ side mi mem ms) ms
def iA(side:Nat)(mem:List Nat)(ms:List Bool)(i j:Nat):List Bool:=mQ side (mem.getD i 0) (mem.take j) ((mem.take i).foldl (fun ms mi=>mQ side mi mem ms) ms)
theorem rX(side mi:Nat)(mem:List Nat)(ms:List Bool):(mQ side mi mem ms).length=ms.length:=by
 unfold mQ
 induction mem generalizing ms with
 | nil=>rfl
 | cons a r ih=>rw[List.foldl_cons,ih];simp
theorem pI(side:Nat)(mem r:List Nat)(ms:List Bool):(r.foldl (fun ms mi=>mQ side mi mem ms) ms).length=ms.length:=by
 induction r generalizing ms with
 | nil=>rfl
 | cons a r ih=>rw[List.foldl_cons,ih,rX]
theorem iT(side:Nat)(mem:List Nat)(ms:List Bool)(i j:Nat):(iA side mem ms i j).length=ms.length:=by
 unfold iA;rw[rX,pI]
theorem yM(side:Nat)(mem:List Nat)(ms:List Bool)(i j:Nat)(hj:j<mem.length):iA side mem ms i (j+1)=(iA side mem ms i j).set (mem.getD i 0*side+mem[j]) true:=by
 unfold iA mQ;rw[mo mem j hj,List.foldl_append];rfl
theorem Ba(side:Nat)(mem:List Nat)(ms:List Bool)(i:Nat)(hi:i<mem.length):iA side mem ms i mem.length=iA side mem ms (i+1) 0:=by
 have e:mem.getD i 0=mem[i]:=by rw[List.getD_eq_getElem?_getD,List.getElem?_eq_getElem hi];rfl
 unfold iA;rw[List.take_length,mo mem i hi,List.foldl_append,e];rfl
theorem BH(side:Nat)(mem:List Nat)(ms:List Bool):iA side mem ms mem.length 0=kZ side mem ms:=by
 unfold iA kZ;rw[List.take_length];rfl
theorem wm(l:List Bool):(pY l).length=l.length*1:=by simp[pY]
theorem jE.mark{w:World}{tb:Nat}{vs:List ByteArray}{ms:List Bool}{hv hm:Hd}(h:jE w tb vs ms hv hm)(gm:Nat)(e:hm.ao=some ⟨gm,0,none⟩)(i:Nat)(hi:i<ms.length) :
  jE (w.setCell ⟨gm,i,none⟩ (.bool true)) tb vs (ms.set i true) hv hm:=by
 have hb:hm.blk=some gm:=by unfold Hd.blk;rw[e];rfl
 refine⟨?_,?_,?_,h.o1,h.o2,h.o3⟩
 ·rw[Below.heap_setCell _ _ _ _ (by rintro rfl;exact h.o2 hb),h.blk];simp
 ·refine h.vars.moved (fun x hx=>Below.heap_setCell _ _ _ _ ?_)
  rintro rfl
  rcases h.o3 with a | a
  ·rw[a]at hx;cases hx
  ·exact a (hx.trans hb.symm)
 ·rcases h.marks.ways with ⟨_,h0,_⟩ | ⟨g,cur,e1,e2,e3,e4,e5,e6⟩
  ·have:ms.length=0:=h0
   omega
  ·have:g=gm:=by rw[e]at e1;injection e1 with e1;injection e1 with e1;exact e1.symm
   subst this;refine⟨by simp only[nt];rw[wm],Or.inr ⟨g,hm.cap,cur.setIfInBounds i (.bool true),?_,Nat.zero_le _,ah e2 _ _,?_,e4,?_,?_⟩⟩
   ·simp[nt,e]
   ·simpa [nt] using e3
   ·simpa [nt] using e5
   ·have e6':cur.toList.take (ms.length*1)=pY ms:=e6
    simp only[nt,List.length_set,Array.toList_setIfInBounds,List.take_set,e6'];simp[pY,List.map_set]
theorem ka(l:List Nat)(k:Nat)(h:k<l.length):(iZ l)[k]?=some (.int .i64 l[k]):=by simp[iZ,h]
set_option maxRecDepth 100000 in
theorem zJ(tb:Nat)(vs:List ByteArray)(ms:List Bool)(hv hm hw:Hd)(mem:List Nat)(w:World)(h:jE w tb vs ms hv hm)(hml:ms.length=vs.length*vs.length)(hvl:vs.length<=10000)(hO:aA w hw (bq mem))(hmm:mem.length<=1000000)
  (hin:∀i (hi:i<mem.length),mem[i]<vs.length) (hne:∀x,hw.blk=some x->hm.blk≠some x) :
  Calls Tryz.prog 237 #[.pointer (some ⟨tb,0,none⟩),.slice hw.ao mem.length hw.cap] w fun e w'=>e=.returned (.tuple #[])/\jE w' tb vs (kZ vs.length mem ms) hv hm/\dX (fun k=>hm.blk=some k) w w':=by
 obtain⟨ao,cap⟩:=hw
 rcases hO.ways with ⟨e0,h0,_⟩ | ⟨g,cur,e1,e2,e3,e4,-⟩
 ·have h0':mem.length=0:=h0
  have hl0:mem=[]:=List.eq_nil_of_length_eq_zero h0';subst hl0;clear hO h0 h0' e0 hmm hin hne;go_enter Tryz.func237,Tryz.ntmps237;go_wp2;refine wp_loop_rounds 1 ?_;rw[rounds_succ];go_wp2;go_end0;exact⟨rfl,h,dX.refl _ _⟩
 simp only at e1 e3 e4;have hcp:mem.length<=cap:=e3;have e4':cap<=9223372036854775807:=by unfold maxLen at e4;exact e4
 subst e1;have hgb:hm.blk≠some g:=hne g rfl;go_enter Tryz.func237,Tryz.ntmps237;go_wp2
 go_loopg [4] mem.length (fun gk i wr=>∃k:Nat,k<=mem.length/\gk=mem.length-k/\i=.int .i64 k/\jE wr tb vs (iA vs.length mem ms k 0) hv hm/\dX (fun k=>hm.blk=some k) w wr)
 case atStart=>exact⟨0,by omega,by omega,rfl,h,dX.refl _ _⟩
 case round =>
  obtain⟨k,hk,hg,rfl,hA,hK⟩:=hrel
  by_cases hlt:k<mem.length
  ·have HR:=(show Hid _ from Ba vs.length mem ms k hlt)
   go_wp2_with fail
   go_loopg [5] mem.length (fun gk2 i2 wr2=>∃j:Nat,j<=mem.length/\gk2=mem.length-j/\i2=.int .i64 j/\jE wr2 tb vs (iA vs.length mem ms k j) hv hm/\dX (fun k=>hm.blk=some k) w wr2)
   case atStart=>exact⟨0,by omega,by omega,rfl,hA,hK⟩
   case round =>
    obtain⟨j,hj,hg2,rfl,hA2,hK2⟩:=hrel;clear hA hK
    by_cases hlj:j<mem.length
    ·have hxk:=hin k hlt
     have hxj:=hin j hlj;have hOw:aA wr ⟨some ⟨g,0,none⟩,cap⟩ (bq mem):=hO.moved (fun x hx=>hK2.block x (hO.lt hx) (fun e=>hne x hx e));have p1:=hOw.cell rfl k (.int .i64 mem[k]) (ka mem k hlt);have p2:=hOw.cell rfl j (.int .i64 mem[j]) (ka mem j hlj);obtain⟨c0,c1⟩:=hA2.cells;rw[iT]at c1;have ST:=yM vs.length mem ms k j hlj;have eg:mem.getD k 0=mem[k]:=by rw[List.getD_eq_getElem?_getD,List.getElem?_eq_getElem hlt];rfl
     rw[eg]at ST
     have hb1:mem[k]*vs.length+mem[j]<ms.length:=by
      rw[hml];have:(mem[k]+1)*vs.length<=vs.length*vs.length:=Nat.mul_le_mul_right _ hxk;rw[Nat.add_mul]at this;omega
     have hb2:mem[k]*vs.length<=10000*10000:=Nat.mul_le_mul (by omega) hvl;have HMK:=(show Hid _ from fun gm e=>hA2.mark gm e (mem[k]*vs.length+mem[j]) (by rw[iT];exact hb1));have HST:=(show Hid _ from ST)
     rcases hA2.marks.ways with ⟨_,h0,_⟩ | ⟨gm,curm,em,em2,em3,-⟩
     ·have:(iA vs.length mem ms k j).length=0:=h0
      rw[iT]at this;omega
     ·have em3':ms.length<=hm.cap:=by have:(iA vs.length mem ms k j).length<=hm.cap:=em3;rw[iT]at this;exact this
      have hfm:=ak em2;have hgm:=ae em2;have p3:=hA2.marks.cell em (mem[k]*vs.length+mem[j]) (.bool ((iA vs.length mem ms k j)[mem[k]*vs.length+mem[j]]'(by rw[iT];exact hb1))) (by simp[nt,pY,iT,hb1]);rw[em]at c1;clear ST em2 em3 hOw;generalize (iA vs.length mem ms k j)[mem[k]*vs.length+mem[j]]'(by rw[iT];exact hb1)=old at *;generalize hx:mem[k]=x at *;generalize hy:mem[j]=y at *;obtain⟨q,hq⟩:∃q,x*vs.length=q:=⟨_,rfl⟩
      have hq':(x:Int)*(vs.length:Int)=(q:Int):=by rw[<-hq];simp
      rw[hq]at hb1 hb2 p3 HMK HST;clear hx hy eg;go_wp2_with fail
      go_quiet (fail)
      go_wp2
      go_roundg (mem.length-(j+1))
      case measure=>omega
      case rel=>exact⟨j+1,by omega,rfl,by go_num,by rw[HST.out];exact(HMK.out gm em).still ((ab.refl [] _).drewN nq),(hK2.still ((ab.refl [] _).drewN nq)).setCell (Or.inl (by unfold Hd.blk;rw[em];rfl)) _⟩
    ·have e:j=mem.length:=by omega
     subst e;rw[HR.out]at hA2;go_wp2
     go_roundg (mem.length-(k+1))
     case measure=>omega
     case rel=>exact⟨k+1,by omega,rfl,by go_num,hA2,hK2⟩
  ·have e:k=mem.length:=by omega
   subst e;rw[BH]at hA;go_wp2;go_end0;exact⟨rfl,hA,hK⟩
def gW(side:Nat)(ms:List Bool)(i j:Nat):Bool:=!(i==j)&&ms.getD (i*side+j) false
theorem E4{i j n:Nat}(hi:i<n)(hj:j<n):i*n+j<n*n:=by
 have:(i+1)*n<=n*n:=Nat.mul_le_mul_right _ hi;rw[Nat.add_mul]at this;omega
theorem wo(tb:Nat)(vs:List ByteArray)(ms:List Bool)(hv hm:Hd)(i j:Nat)(w:World)(h:jE w tb vs ms hv hm)(hml:ms.length=vs.length*vs.length)(hvl:vs.length<=10000)(hi:i<vs.length)(hj:j<vs.length) :
  Calls Tryz.prog 215 #[.pointer (some ⟨tb,0,none⟩),.int .i64 i,.int .i64 j] w fun e w'=>e=.returned (.bool (gW vs.length ms i j))/\w'=w:=by
 obtain⟨c0,c1⟩:=h.cells;have hb1:i*vs.length+j<ms.length:=by rw[hml];exact E4 hi hj
 have hb2:i*vs.length<=10000*10000:=Nat.mul_le_mul (by omega) hvl
 rcases h.marks.ways with ⟨_,h0,_⟩ | ⟨gm,curm,em,em2,em3,-⟩
 ·have:ms.length=0:=h0
  omega
 ·have em3':ms.length<=hm.cap:=em3
  have p3:=h.marks.cell em (i*vs.length+j) (.bool ms[i*vs.length+j]) (by simp[nt,pY,hb1]);have eg:ms.getD (i*vs.length+j) false=ms[i*vs.length+j]:=by rw[List.getD_eq_getElem?_getD,List.getElem?_eq_getElem hb1];rfl
  have HA:Hid (gW vs.length ms i j=(!(i==j)&&ms[i*vs.length+j])):=by show _=_;unfold gW;rw[eg]
  rw[em]at c1;generalize ms[i*vs.length+j]=old at *;obtain⟨q,hq⟩:∃q,i*vs.length=q:=⟨_,rfl⟩
  have hq':(i:Int)*(vs.length:Int)=(q:Int):=by rw[<-hq];simp
  rw[hq]at hb1 hb2 p3;clear eg em2 em3 h
  by_cases hij:i=j
  ·have hd:((i:Int) != (j:Int))=false:=by simp[hij]
   have HT:Hid (gW vs.length ms i j=false):=by show _=_;rw[HA.out];simp[hij]
   clear HA;go_enter Tryz.func215,Tryz.ntmps215;go_wp2;go_ret;exact⟨aB HT.out.symm,rfl⟩
  ·have hd:((i:Int) != (j:Int))=true:=by simp;omega
   have HT:Hid (gW vs.length ms i j=old):=by show _=_;rw[HA.out];simp[hij]
   clear HA;go_enter Tryz.func215,Tryz.ntmps215;go_wp2;go_ret;exact⟨aB HT.out.symm,rfl⟩
def CR(l:List St)(a n:Nat):Bool:=match l[n]? with | some s=>(s.kind==1)&&im l n a | none=>false
theorem IS(l:List St)(a n:Nat)(h:n<l.length):CR l a n=((l[n].kind==1)&&im l n a):=by
 unfold CR;rw[List.getElem?_eq_getElem h]
def de(l:List St)(a:Nat)(vs:List ByteArray):Nat->List Bool
 | 0=>List.replicate (vs.length*vs.length) false
 | k+1=>if CR l a k=true then kZ vs.length (bO vs (fQ l k)) (de l a vs k) else de l a vs k
def jZ(l:List St)(a:Nat)(vs:List ByteArray):List Bool:=de l a vs l.length
theorem lF(l:List St)(a:Nat)(vs:List ByteArray)(k:Nat):(de l a vs k).length=vs.length*vs.length:=by
 induction k with
 | zero=>simp[de]
 | succ k ih =>
  rw[de]
  split
  ·unfold kZ;rw[pI,ih]
  ·exact ih
theorem Da{vs:List ByteArray}{x:ByteArray}{p:Nat}(h:ox vs x=some p):p<vs.length:=by
 have:=List.mem_of_find?_eq_some h;simpa using this
theorem wU(vs ws:List ByteArray)(i:Nat)(h:i<(bO vs ws).length):(bO vs ws)[i]<vs.length:=by
 have hm:=List.getElem_mem h;unfold bO at hm;rw[List.mem_filterMap]at hm;obtain⟨x,_,hx⟩:=hm;exact Da hx
theorem Kr:(Tryz.prog.info? 4).map (fun i=>(i.zero,i.size,i.bytes))=some (some (.bool false),1,1):=by kernel_rfl
theorem FV(v:Value)(n:Nat):madeCells #[v] n=(List.replicate n v).toArray:=by
 apply Array.ext
 ·rw[size_madeCells];simp
 ·intro i h1 h2
  have h:i<n:=by rw[size_madeCells]at h1;exact h1
  have:=xd v n i h;rw[Array.getElem?_eq_getElem h1]at this;simp at this ⊢;exact this
theorem ab.ofP{P:Nat->Prop}{w wr w1:World}(K:ab [] w wr)(g:dX P wr w1)(hb:∀k,P k->w.heap.size<=k):ab [] w w1 :=
 ⟨g.os.trans K.os,g.tape.trans K.tape,g.output.trans K.output,Nat.le_trans K.size g.size,fun k hk _=>(g.block k (Nat.lt_of_lt_of_le hk K.size) (fun e=>by have:=hb k e;omega)).trans (K.block k hk (by simp))⟩
set_option maxRecDepth 100000 in
theorem Gt(b o a:Nat)(l:List St)(H:Nat->Hd)(hw:Hd)(vs:List ByteArray)(w:World)(h:ev w b o l H)(ok:jH l)(hO:aA w hw (aD vs))(hvl:vs.length<=10000) :
  Calls Tryz.prog 209 #[.pointer (some ⟨b,o,none⟩),.int .i64 a,.slice hw.ao vs.length hw.cap] w fun e w'=>∃(tb:Nat) (hv hm:Hd),e=.returned (.pointer (some ⟨tb,0,none⟩))/\jE w' tb vs (jZ l a vs) hv hm/\w.heap.size<=tb/\(∀x,hv.blk=some x∨hm.blk=some x->w.heap.size<=x)/\ab [] w w':=by
 obtain⟨i0,hi,hz0,hz1,hz2⟩:=info_parts jI;obtain⟨i1,hi1,hy0,hy1,hy2⟩:=info_parts Kr;have hlen:=ok.len;have hbw:=h.lt;obtain⟨q,hq⟩:∃q,vs.length*vs.length=q:=⟨_,rfl⟩
 have hq':(vs.length:Int)*(vs.length:Int)=(q:Int):=by rw[<-hq];simp
 have hql:q<=10000*10000:=by rw[<-hq];exact Nat.mul_le_mul hvl hvl
 have m1:=fun w=>dn (P:=Tryz.prog) w 61 9 i0 _ Tryz.underlying61 hi hz0 vs.length 1 hz1 (by rw[hz2];omega) (by omega)
 have m2:=fun w=>dn (P:=Tryz.prog) w 134 4 i1 _ Tryz.underlying134 hi1 hy0 q 1 hy1 (by rw[hy2];omega) (by omega)
 obtain⟨mc1,hmc1⟩:∃mc,mc=madeCells (Value.string ⟨#[]⟩).cells (vs.length*1):=⟨_,rfl⟩
 obtain⟨mc2,hmc2⟩:∃mc,mc=madeCells (Value.bool false).cells (q*1):=⟨_,rfl⟩
 have z1:mc1.size=vs.length*1:=by rw[hmc1,size_madeCells]
 have HZ2:Hid (mc2=(pY (de l a vs 0)).toArray):=by
  show _=_
  rw[hmc2,Nat.mul_one,<-hq];have:(Value.bool false).cells=#[.bool false]:=rfl;rw[this,FV];simp[de,pY]
 rw[<-hmc1]at m1;rw[<-hmc2]at m2;clear hmc1 hmc2;have K2:ab [] w (w.alloc (.cells mc1 9)):=(ab.refl [] _).alloc _;have Hsz1:Hid ((Tryz.prog.info? (aD vs).e).map (·.size)=some (aD vs).size):=by show _=_;simp[aD,hi,hz1]
 obtain⟨w3,cp1,hg3,hk3,hz3⟩:=qC (P:=Tryz.prog) (w.alloc (.cells mc1 9)) 61 61 3 w.heap.size vs.length hw (aD vs) mc1 9 Tryz.underlying61 Hsz1.out (heap_alloc_new _ _) (hO.moved (fun x hx=>K2.block x (hO.lt hx) (by simp))) z1 (ko _);simp only[aD]at cp1 hg3;have hz3':w3.heap.size=w.heap.size+1:=by rw[hz3];simp
 have K3:ab [] w w3:=((K2.mono (S':=[w.heap.size]) (by simp)).trans hk3).mono (by simp);obtain⟨W4,hW4⟩:∃W4,W4=(w3.alloc (.cells mc2 4)).alloc (.cells #[.slice (some ⟨w.heap.size,0,none⟩) vs.length vs.length,.slice (some ⟨w3.heap.size,0,none⟩) q q] 327):=⟨_,rfl⟩
 have K4:ab [] w W4:=by rw[hW4];exact(K3.alloc _).alloc _
 have hq0:Hid (q=(de l a vs 0).length):=by show _=_;rw[lF,hq]
 have A4:jE W4 (w3.heap.size+1) vs (de l a vs 0) ⟨some ⟨w.heap.size,0,none⟩,vs.length⟩ ⟨some ⟨w3.heap.size,0,none⟩,q⟩:=by
  refine⟨?_,?_,?_,?_,?_,?_⟩
  ·rw[hW4,<-hq0.out]
   have:=heap_alloc_new (w3.alloc (.cells mc2 4)) (.cells #[.slice (some ⟨w.heap.size,0,none⟩) vs.length vs.length,.slice (some ⟨w3.heap.size,0,none⟩) q q] 327);simpa using this
  ·refine aA.made (r:=aD vs) ?_ (zR _) (by simp only[aD];unfold maxLen;omega)
   rw[hW4];exact(((ab.refl [] _).alloc _).alloc _).get hg3 (by simp)
  ·have e:(⟨some ⟨w3.heap.size,0,none⟩,q⟩:Hd)=⟨some ⟨w3.heap.size,0,none⟩,(nt (de l a vs 0)).n⟩:=by rw[hq0.out];rfl
   rw[e];refine aA.made (r:=nt (de l a vs 0)) ?_ (wm _) (by simp only[nt];rw[<-hq0.out];unfold maxLen;omega);rw[hW4];have:=((ab.refl [] (w3.alloc (.cells mc2 4))).alloc (.cells #[.slice (some ⟨w.heap.size,0,none⟩) vs.length vs.length,.slice (some ⟨w3.heap.size,0,none⟩) q q] 327)).get (heap_alloc_new w3 (.cells mc2 4)) (by simp);rw[this,HZ2.out];rfl
  ·intro e;simp[Hd.blk]at e;omega
  ·intro e;simp[Hd.blk]at e
  ·right;intro e;simp[Hd.blk]at e;omega
 have HW4:=(show Hid _ from hW4.symm);rw[hz3']at HW4 A4;clear hW4 hk3 hg3 HZ2 K2 hO Hsz1 z1 hz3;obtain⟨hv,hhv⟩:∃hv:Hd,hv=⟨some ⟨w.heap.size,0,none⟩,vs.length⟩:=⟨_,rfl⟩
 obtain⟨hm,hhm⟩:∃hm:Hd,hm=⟨some ⟨w.heap.size+1,0,none⟩,q⟩:=⟨_,rfl⟩
 rw[<-hhv,<-hhm]at A4
 have HB:Hid (∀x,hv.blk=some x∨hm.blk=some x->w.heap.size<=x/\x<=w.heap.size+1):=by
  intro x hx;rw[hhv,hhm]at hx;simp[Hd.blk]at hx;omega
 clear hhv hhm;go_enter Tryz.func209,Tryz.ntmps209
 go_upto_region 4 with fail
 rw[HW4.out];clear HW4 m1 m2 cp1 K3 hz3';go_wp2
 go_loopg [9] l.length (fun gk i wr=>∃k:Nat,k<=l.length/\gk=l.length-k/\i=.int .i64 k/\jE wr (w.heap.size+1+1) vs (de l a vs k) hv hm/\ab [] w wr)
 case atStart=>exact⟨0,by omega,by omega,rfl,A4,K4⟩
 case round =>
  obtain⟨k,hk,hg,rfl,hA,hK⟩:=hrel;have hr:=h.still hK;have hal:=hA.lt;clear A4 K4
  by_cases hlt:k<l.length
  ·have HD:=(show Hid _ from IS l a k hlt)
   have hsk:=ok.syms k hlt;have hpk:=ok.pos k hlt;have SY:Hid (fQ l k=l[k].symbols):=md l k hlt;have HU:Hid (de l a vs (k+1)=if CR l a k=true then kZ vs.length (bO vs (fQ l k)) (de l a vs k) else de l a vs k):=rfl
   cases hkd:(l[k].kind==1)
   ·have HT:Hid (de l a vs (k+1)=de l a vs k):=by show _=_;rw[HU.out,HD.out,hkd];simp
    clear HD HU SY;go_wp2_with (first | (go_at_call 80;refine(dQ b o l H _ (by exact hr)).mono ?_;rintro e wc ⟨rfl,rfl⟩) | (go_at_call 97;refine(bb b o k l H _ (by exact hr) hlt).mono ?_;rintro e w5 ⟨rfl,hk5⟩;unfold eG))
    go_roundg (l.length-(k+1))
    case measure=>omega
    case rel=>exact⟨k+1,by omega,rfl,by go_num,by rw[HT.out];exact(hA.still hk5).still ((ab.refl [] _).alloc _),(hK.trans hk5).alloc _⟩
   ·go_wp2_with (first | (go_at_call 80;refine(dQ b o l H _ (by exact hr)).mono ?_;rintro e wc ⟨rfl,hwc⟩;rw[hwc]) | (go_at_call 97;refine(bb b o k l H _ (by exact hr) hlt).mono ?_;rintro e w5 ⟨rfl,hk5⟩;unfold eG))
    obtain⟨W6,hW6⟩:∃W6,W6=w5.alloc (.cells #[.int .i64 l[k].kind,.string l[k].label,.slice (H (10+2*k)).ao l[k].symbols.length (H (10+2*k)).cap,.slice (H (11+2*k)).ao l[k].proof.length (H (11+2*k)).cap,.string l[k].fin.file,.int .i64 l[k].fin.line,.int .i64 l[k].fin.col,.int .i64 l[k].til] 158):=⟨_,rfl⟩
    rw[<-hW6];have k6:ab [] wr W6:=by rw[hW6];exact hk5.alloc _
    have B6:W6.heap[w5.heap.size]?=some (.cells #[.int .i64 l[k].kind,.string l[k].label,.slice (H (10+2*k)).ao l[k].symbols.length (H (10+2*k)).cap,.slice (H (11+2*k)).ao l[k].proof.length (H (11+2*k)).cap,.string l[k].fin.file,.int .i64 l[k].fin.line,.int .i64 l[k].fin.col,.int .i64 l[k].til] 158 (0,0)):=by rw[hW6];exact heap_alloc_new _ _
    have q2:W6.cell? ⟨w5.heap.size,2,none⟩=some (.slice (H (10+2*k)).ao l[k].symbols.length (H (10+2*k)).cap):=by rw[aa B6];rfl
    have hr6:=hr.still k6;have hA6:=hA.still k6;have hK6:=hK.trans k6;have hV6:=(hr6.sts.syms k l[k] (List.getElem?_eq_getElem hlt)).view;clear hW6 hk5 k6 B6 hr hA hK
    cases hh:im l k a
    ·have HT:Hid (de l a vs (k+1)=de l a vs k):=by show _=_;rw[HU.out,HD.out,hh];simp
     clear HD HU SY;go_wp2_with (go_at_call 187;refine(fB b o k a l H _ (by exact hr6) hlt).mono ?_;rintro e w7 ⟨rfl,rfl⟩)
     go_roundg (l.length-(k+1))
     case measure=>omega
     case rel=>exact⟨k+1,by omega,rfl,by go_num,by rw[HT.out];exact hA6,hK6⟩
    ·have HT:Hid (de l a vs (k+1)=kZ vs.length (bO vs l[k].symbols) (de l a vs k)):=by show _=_;rw[HU.out,HD.out,hkd,hh,SY.out];simp
     clear HD HU SY;go_wp2_with (first | (go_at_call 187;refine(fB b o k a l H _ (by exact hr6) hlt).mono ?_;rintro e w7 ⟨rfl,hw7⟩;rw[hw7]) | (go_at_call 238;refine(vh (w.heap.size+1+1) vs (de l a vs k) hv hm (H (10+2*k)) l[k].symbols _ (by exact hA6) (by omega) (by exact hV6) (by omega)).mono ?_;rintro e w8 ⟨hd,rfl,hO8,hN8,hk8⟩));have hA8:=hA6.still hk8;have hpl:=oM vs l[k].symbols
     refine(zJ (w.heap.size+1+1) vs (de l a vs k) hv hm hd (bO vs l[k].symbols) _ hA8 (lF _ _ _ _) hvl hO8 (by omega) (fun i hi=>wU vs l[k].symbols i hi) (by
      intro x hx e;have h1:=hN8 x hx;have h2:=HB.out x (Or.inr e);have h3:=hA6.lt
      omega)).mono ?_
     rintro e w9 ⟨rfl,hA9,hk9⟩;have hK9:=(hK6.trans hk8).ofP hk9 (fun x hx=>(HB.out x (Or.inr hx)).1);go_wp2
     go_roundg (l.length-(k+1))
     case measure=>omega
     case rel=>exact⟨k+1,by omega,rfl,by go_num,by rw[HT.out];exact hA9,hK9⟩
  ·have e:k=l.length:=by omega
   subst e;go_wp2_with (go_at_call 80;refine(dQ b o l H _ (by exact hr)).mono ?_;rintro e wc ⟨rfl,rfl⟩);go_ret;exact⟨w.heap.size+1+1,hv,hm,rfl,hA,by omega,fun x hx=>(HB.out x hx).1,hK⟩
structure aR(w:World)(b t:Nat)(cs:List Value)(rows:Nat->dK)(H:Nat->Hd):Prop where
 blk:w.heap[b]?=some (.cells cs.toArray t (0,0))
 own:∀i,aA w (H i) (rows i)
 apart:∀i j,i≠j->(H i).blk=none∨(H i).blk≠(H j).blk
 off:∀i,(H i).blk≠some b
theorem aR.lt{w:World}{b t:Nat}{cs:List Value}{rows:Nat->dK}{H:Nat->Hd}(h:aR w b t cs rows H):b<w.heap.size:=ae h.blk
theorem aR.inlt{w:World}{b t:Nat}{cs:List Value}{rows:Nat->dK}{H:Nat->Hd}(h:aR w b t cs rows H){k:Nat}(hk:fk H k):k<w.heap.size:=by
 obtain⟨i,hi⟩:=hk;exact(h.own i).lt hi
theorem aR.free{w:World}{b t:Nat}{cs:List Value}{rows:Nat->dK}{H:Nat->Hd}(h:aR w b t cs rows H)(i:Nat):w.frozen? ⟨b,i,none⟩=false:=ak h.blk i
theorem aR.cell{w:World}{b t:Nat}{cs:List Value}{rows:Nat->dK}{H:Nat->Hd}(h:aR w b t cs rows H)(i:Nat):w.cell? ⟨b,i,none⟩=cs[i]?:=by rw[aa h.blk];simp
theorem aR.keptP{w w':World}{b t:Nat}{cs:List Value}{rows:Nat->dK}{H:Nat->Hd}{P:Nat->Prop}(h:aR w b t cs rows H)(hk:dX P w w')(hb:¬P b)(hs:∀k,fk H k->¬P k):aR w' b t cs rows H :=
 ⟨hk.get h.blk hb,fun i=>(h.own i).moved (fun k hk'=>hk.block k ((h.own i).lt hk') (hs k ⟨i,hk'⟩)),h.apart,h.off⟩
theorem aR.kept{w w':World}{b t:Nat}{cs:List Value}{rows:Nat->dK}{H:Nat->Hd}{S:List Nat}(h:aR w b t cs rows H)(hk:ab S w w')(hb:b∉S)(hs:∀k,fk H k->k∉S):aR w' b t cs rows H :=
 h.keptP (hk.toP (P:=(·∈S)) (fun _ hm _=>hm)) hb hs
theorem aR.still{w w':World}{b t:Nat}{cs:List Value}{rows:Nat->dK}{H:Nat->Hd}(h:aR w b t cs rows H)(hk:ab [] w w'):aR w' b t cs rows H:=h.kept hk (by simp) (by simp)
theorem aR.put{w w1:World}{b t:Nat}{cs:List Value}{rows rows':Nat->dK}{H:Nat->Hd}(h:aR w b t cs rows H)(c i:Nat)(h':Hd)
  (o1:aA w1 h' (rows' i)) (hg:w.grownBy w1 (H i).blk)
  (hf:h'.blk=none∨h'.blk=(H i).blk∨∃g,h'.blk=some g/\w.heap.size<=g) (hrow:∀j,j≠i->rows' j=rows j) (u:Value) :
  aR (w1.setCell ⟨b,c,none⟩ u) b t (cs.set c u) rows' (fI H i h')/\aw b w H (w1.setCell ⟨b,c,none⟩ u) (fI H i h'):=by
 have hb:=h.lt;have hb1:w1.heap[b]?=some (.cells cs.toArray t (0,0)):=(hg.block b hb (fun e=>h.off i e.symm)).trans h.blk
 have hoff:∀j,(fI H i h' j).blk≠some b:=by
  intro j
  by_cases e:j=i
  ·subst e;rw[cG];intro hx
   rcases hf with hf | hf | ⟨g,hf,hg'⟩
   ·rw[hf]at hx;cases hx
   ·exact h.off j (hf ▸ hx)
   ·rw[hf]at hx;cases hx;omega
  ·rw[bL _ _ _ _ e];exact h.off j
 refine⟨⟨?_,?_,?_,hoff⟩,⟨hg.os,hg.tape,hg.output,by have:=hg.size;simp[World.setCell];omega,?_⟩,?_⟩
 ·rw[ah hb1,List.setIfInBounds_toArray]
 ·intro j
  have q:aA w1 (fI H i h' j) (rows' j):=by
   by_cases e:j=i
   ·subst e;rw[cG];exact o1
   ·rw[bL _ _ _ _ e,hrow j e]
    refine(h.own j).moved (fun k hk=>hg.block k ((h.own j).lt hk) ?_);intro ek
    rcases h.apart j i e with a | a
    ·rw[a]at hk;cases hk
    ·exact a (hk.trans ek)
  refine q.moved (fun k hk=>Below.heap_setCell _ _ _ _ ?_);rintro rfl;exact hoff j hk
 ·intro j l hne
  by_cases e:j=i
  ·subst e
   rw[cG,bL _ _ _ _ (fun e=>hne e.symm)]
   rcases hf with hf | hf | ⟨g,hf,hg'⟩
   ·exact Or.inl hf
   ·rw[hf];exact h.apart j l hne
   ·right;rw[hf];intro ek;have:=(h.own l).lt ek.symm;omega
  ·rw[bL _ _ _ _ e]
   by_cases e2:l=i
   ·subst e2
    rw[cG]
    rcases hf with hf | hf | ⟨g,hf,hg'⟩
    ·rw[hf];cases (H j).blk <;> simp
    ·rw[hf];exact h.apart j l hne
    ·cases hx:(H j).blk with
     | none=>exact Or.inl rfl
     | some k=>right;rw[hf];intro ek;cases ek;have:=(h.own j).lt hx;omega
   ·rw[bL _ _ _ _ e2];exact h.apart j l hne
 ·intro k hk hn
  rw[Below.heap_setCell _ _ _ _ (fun e=>hn (Or.inl e))];exact hg.block k hk (fun e=>hn (Or.inr ⟨i,e.symm⟩))
 ·intro k hk
  obtain⟨j,e⟩:=hk
  by_cases ei:j=i
  ·subst ei
   rw[cG]at e
   rcases hf with hf | hf | ⟨g,hf,hg'⟩
   ·rw[hf]at e;cases e
   ·exact Or.inl ⟨j,hf ▸ e⟩
   ·rw[hf]at e;cases e;exact Or.inr hg'
  ·rw[bL _ _ _ _ ei]at e
   exact Or.inl ⟨j,e⟩
theorem aR.set{w:World}{b t:Nat}{cs:List Value}{rows:Nat->dK}{H:Nat->Hd}(h:aR w b t cs rows H)(c:Nat)(u:Value) :
  aR (w.setCell ⟨b,c,none⟩ u) b t (cs.set c u) rows H/\aw b w H (w.setCell ⟨b,c,none⟩ u) H:=by
 refine⟨⟨?_,?_,h.apart,h.off⟩,(dX.refl _ _).setCell (Or.inl (Or.inl rfl)) _,fun _ hk=>Or.inl hk⟩
 ·rw[ah h.blk,List.setIfInBounds_toArray]
 ·intro j
  refine(h.own j).moved (fun k hk=>Below.heap_setCell _ _ _ _ ?_);rintro rfl;exact h.off j hk
theorem aR.app{w w1:World}{b t:Nat}{cs cs':List Value}{rows rows':Nat->dK}{H:Nat->Hd}(h:aR w b t cs rows H)(c i g cap' m:Nat)(r:dK)
  (hw1:aA w1 ⟨some ⟨g,0,none⟩,cap'⟩ r) (hr:r=rows' i) (hgr:w.grownBy w1 (H i).blk) (hfresh:(H i).blk=some g∨w.heap.size<=g)
  (hrow:∀j,j≠i->rows' j=rows j) (v0:Value) (hv:cs[c]?=some v0) (hl:cs.set c (.slice (some ⟨g,0,none⟩) m cap')=cs') :
  w1.cell? ⟨b,c,none⟩=some v0/\w1.frozen? ⟨b,c,none⟩=false /\
  Hid (aR (w1.setCell ⟨b,c,none⟩ (.slice (some ⟨g,0,none⟩) m cap')) b t cs' rows' (fI H i ⟨some ⟨g,0,none⟩,cap'⟩) /\
   aw b w H (w1.setCell ⟨b,c,none⟩ (.slice (some ⟨g,0,none⟩) m cap')) (fI H i ⟨some ⟨g,0,none⟩,cap'⟩)):=by
 have hk:=(hgr.block b h.lt (fun e=>h.off i e.symm)).trans h.blk;subst hr;subst hl;refine⟨by rw[aa hk];simpa using hv,ak hk _,?_⟩
 exact h.put (rows':=rows') c i ⟨some ⟨g,0,none⟩,cap'⟩ hw1 hgr
  (by rcases hfresh with e | e
    ·exact Or.inr (Or.inl e.symm)
    ·exact Or.inr (Or.inr ⟨g,rfl,by simpa using e⟩)) hrow _
end Go.Proofs.YtpddjjabfbfifaaGreat

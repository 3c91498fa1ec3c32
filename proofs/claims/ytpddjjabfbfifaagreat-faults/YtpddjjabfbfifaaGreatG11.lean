import Derived.BigQuiet
import Derived.Test.YtpddjjabfbfifaaGreatG10
namespace Go.Proofs.YtpddjjabfbfifaaGreat
open Go.RowKit
set_option maxHeartbeats 40000000
def gQ(side:Nat)(ms:List Bool)(i j:Nat):Bool:=!(i==j)&&ms.getD (i*side+j) false
theorem E0{i j n:Nat}(hi:i<n)(hj:j<n):i*n+j<n*n:=by
 have:(i+1)*n<=n*n:=Nat.mul_le_mul_right _ hi;rw[Nat.add_mul]at this;omega
theorem vA(tb:Nat)(vs:List ByteArray)(ms:List Bool)(hv hm:Hd)(i j:Nat)(w:World)(h:jC w tb vs ms hv hm)(hml:ms.length=vs.length*vs.length)(hvl:vs.length<=10000)(hi:i<vs.length)(hj:j<vs.length) :
  Calls Tryz.prog 215 #[.pointer (some ⟨tb,0,none⟩),.int .i64 i,.int .i64 j] w fun e w'=>e=.returned (.bool (gQ vs.length ms i j))/\w'=w:=by
 obtain⟨c0,c1⟩:=h.cells;have hb1:i*vs.length+j<ms.length:=by rw[hml];exact E0 hi hj
 have hb2:i*vs.length<=10000*10000:=Nat.mul_le_mul (by omega) hvl
 rcases h.marks.ways with ⟨_,h0,_⟩ | ⟨gm,curm,em,em2,em3,-⟩
 ·have:ms.length=0:=h0
  omega
 ·have em3':ms.length<=hm.cap:=em3
  have p3:=h.marks.cell em (i*vs.length+j) (.bool ms[i*vs.length+j]) (by simp[nQ,pL,hb1]);have eg:ms.getD (i*vs.length+j) false=ms[i*vs.length+j]:=by rw[List.getD_eq_getElem?_getD,List.getElem?_eq_getElem hb1];rfl
  have HA:Hid (gQ vs.length ms i j=(!(i==j)&&ms[i*vs.length+j])):=by show _=_;unfold gQ;rw[eg]
  rw[em]at c1;generalize ms[i*vs.length+j]=old at *;obtain⟨q,hq⟩:∃q,i*vs.length=q:=⟨_,rfl⟩
  have hq':(i:Int)*(vs.length:Int)=(q:Int):=by rw[<-hq];simp
  rw[hq]at hb1 hb2 p3;clear eg em2 em3 h
  by_cases hij:i=j
  ·have hd:((i:Int) != (j:Int))=false:=by simp[hij]
   have HT:Hid (gQ vs.length ms i j=false):=by show _=_;rw[HA.out];simp[hij]
   clear HA;go_enter Tryz.func215,Tryz.ntmps215;go_wp2;go_ret;exact⟨aB HT.out.symm,rfl⟩
  ·have hd:((i:Int) != (j:Int))=true:=by simp;omega
   have HT:Hid (gQ vs.length ms i j=old):=by show _=_;rw[HA.out];simp[hij]
   clear HA;go_enter Tryz.func215,Tryz.ntmps215;go_wp2;go_ret;exact⟨aB HT.out.symm,rfl⟩
def Cx(l:List St)(a n:Nat):Bool:=match l[n]? with | some s=>(s.kind==1)&&io l n a | none=>false
theorem IM(l:List St)(a n:Nat)(h:n<l.length):Cx l a n=((l[n].kind==1)&&io l n a):=by
 unfold Cx;rw[List.getElem?_eq_getElem h]
def de(l:List St)(a:Nat)(vs:List ByteArray):Nat->List Bool
 | 0=>List.replicate (vs.length*vs.length) false
 | k+1=>if Cx l a k=true then lm vs.length (bO vs (fR l k)) (de l a vs k) else de l a vs k
def jT(l:List St)(a:Nat)(vs:List ByteArray):List Bool:=de l a vs l.length
theorem lI(l:List St)(a:Nat)(vs:List ByteArray)(k:Nat):(de l a vs k).length=vs.length*vs.length:=by
 induction k with
 | zero=>simp[de]
 | succ k ih =>
  rw[de]
  split
  ·unfold lm;rw[p9,ih]
  ·exact ih
theorem CS{vs:List ByteArray}{x:ByteArray}{p:Nat}(h:oF vs x=some p):p<vs.length:=by
 have:=List.mem_of_find?_eq_some h;simpa using this
theorem xw(vs ws:List ByteArray)(i:Nat)(h:i<(bO vs ws).length):(bO vs ws)[i]<vs.length:=by
 have hm:=List.getElem_mem h;unfold bO at hm;rw[List.mem_filterMap]at hm;obtain⟨x,_,hx⟩:=hm;exact CS hx
theorem Ko:(Tryz.prog.info? 4).map (fun i=>(i.zero,i.size,i.bytes))=some (some (.bool false),1,1):=by kernel_rfl
theorem GD(v:Value)(n:Nat):madeCells #[v] n=(List.replicate n v).toArray:=by
 apply Array.ext
 ·rw[size_madeCells];simp
 ·intro i h1 h2
  have h:i<n:=by rw[size_madeCells]at h1;exact h1
  have:=xo v n i h;rw[Array.getElem?_eq_getElem h1]at this;simp at this ⊢;exact this
theorem ab.ofP{P:Nat->Prop}{w wr w1:World}(K:ab [] w wr)(g:dQ P wr w1)(hb:∀k,P k->w.heap.size<=k):ab [] w w1 :=
 ⟨g.os.trans K.os,g.tape.trans K.tape,g.output.trans K.output,Nat.le_trans K.size g.size,fun k hk _=>(g.block k (Nat.lt_of_lt_of_le hk K.size) (fun e=>by have:=hb k e;omega)).trans (K.block k hk (by simp))⟩
set_option maxRecDepth 100000 in
theorem FI(b o a:Nat)(l:List St)(H:Nat->Hd)(hw:Hd)(vs:List ByteArray)(w:World)(h:eu w b o l H)(ok:jH l)(hO:aA w hw (aD vs))(hvl:vs.length<=10000) :
  Calls Tryz.prog 209 #[.pointer (some ⟨b,o,none⟩),.int .i64 a,.slice hw.ao vs.length hw.cap] w fun e w'=>∃(tb:Nat) (hv hm:Hd),e=.returned (.pointer (some ⟨tb,0,none⟩))/\jC w' tb vs (jT l a vs) hv hm/\w.heap.size<=tb/\(∀x,hv.blk=some x∨hm.blk=some x->w.heap.size<=x)/\ab [] w w':=by
 obtain⟨i0,hi,hz0,hz1,hz2⟩:=info_parts jI;obtain⟨i1,hi1,hy0,hy1,hy2⟩:=info_parts Ko;have hlen:=ok.len;have hbw:=h.lt;obtain⟨q,hq⟩:∃q,vs.length*vs.length=q:=⟨_,rfl⟩
 have hq':(vs.length:Int)*(vs.length:Int)=(q:Int):=by rw[<-hq];simp
 have hql:q<=10000*10000:=by rw[<-hq];exact Nat.mul_le_mul hvl hvl
 have m1:=fun w=>dn (P:=Tryz.prog) w 61 9 i0 _ Tryz.underlying61 hi hz0 vs.length 1 hz1 (by rw[hz2];omega) (by omega)
 have m2:=fun w=>dn (P:=Tryz.prog) w 134 4 i1 _ Tryz.underlying134 hi1 hy0 q 1 hy1 (by rw[hy2];omega) (by omega)
 obtain⟨mc1,hmc1⟩:∃mc,mc=madeCells (Value.string ⟨#[]⟩).cells (vs.length*1):=⟨_,rfl⟩
 obtain⟨mc2,hmc2⟩:∃mc,mc=madeCells (Value.bool false).cells (q*1):=⟨_,rfl⟩
 have z1:mc1.size=vs.length*1:=by rw[hmc1,size_madeCells]
 have HZ2:Hid (mc2=(pL (de l a vs 0)).toArray):=by
  show _=_
  rw[hmc2,Nat.mul_one,<-hq];have:(Value.bool false).cells=#[.bool false]:=rfl;rw[this,GD];simp[de,pL]
 rw[<-hmc1]at m1;rw[<-hmc2]at m2;clear hmc1 hmc2;have K2:ab [] w (w.alloc (.cells mc1 9)):=(ab.refl [] _).alloc _;have Hsz1:Hid ((Tryz.prog.info? (aD vs).e).map (·.size)=some (aD vs).size):=by show _=_;simp[aD,hi,hz1]
 obtain⟨w3,cp1,hg3,hk3,hz3⟩:=qL (P:=Tryz.prog) (w.alloc (.cells mc1 9)) 61 61 3 w.heap.size vs.length hw (aD vs) mc1 9 Tryz.underlying61 Hsz1.out (heap_alloc_new _ _) (hO.moved (fun x hx=>K2.block x (hO.lt hx) (by simp))) z1 (ku _);simp only[aD]at cp1 hg3;have hz3':w3.heap.size=w.heap.size+1:=by rw[hz3];simp
 have K3:ab [] w w3:=((K2.mono (S':=[w.heap.size]) (by simp)).trans hk3).mono (by simp);obtain⟨W4,hW4⟩:∃W4,W4=(w3.alloc (.cells mc2 4)).alloc (.cells #[.slice (some ⟨w.heap.size,0,none⟩) vs.length vs.length,.slice (some ⟨w3.heap.size,0,none⟩) q q] 327):=⟨_,rfl⟩
 have K4:ab [] w W4:=by rw[hW4];exact(K3.alloc _).alloc _
 have hq0:Hid (q=(de l a vs 0).length):=by show _=_;rw[lI,hq]
 have A4:jC W4 (w3.heap.size+1) vs (de l a vs 0) ⟨some ⟨w.heap.size,0,none⟩,vs.length⟩ ⟨some ⟨w3.heap.size,0,none⟩,q⟩:=by
  refine⟨?_,?_,?_,?_,?_,?_⟩
  ·rw[hW4,<-hq0.out]
   have:=heap_alloc_new (w3.alloc (.cells mc2 4)) (.cells #[.slice (some ⟨w.heap.size,0,none⟩) vs.length vs.length,.slice (some ⟨w3.heap.size,0,none⟩) q q] 327);simpa using this
  ·refine aA.made (r:=aD vs) ?_ (zK _) (by simp only[aD];unfold maxLen;omega)
   rw[hW4];exact(((ab.refl [] _).alloc _).alloc _).get hg3 (by simp)
  ·have e:(⟨some ⟨w3.heap.size,0,none⟩,q⟩:Hd)=⟨some ⟨w3.heap.size,0,none⟩,(nQ (de l a vs 0)).n⟩:=by rw[hq0.out];rfl
   rw[e];refine aA.made (r:=nQ (de l a vs 0)) ?_ (vF _) (by simp only[nQ];rw[<-hq0.out];unfold maxLen;omega);rw[hW4];have:=((ab.refl [] (w3.alloc (.cells mc2 4))).alloc (.cells #[.slice (some ⟨w.heap.size,0,none⟩) vs.length vs.length,.slice (some ⟨w3.heap.size,0,none⟩) q q] 327)).get (heap_alloc_new w3 (.cells mc2 4)) (by simp);rw[this,HZ2.out];rfl
  ·intro e;simp[Hd.blk]at e;omega
  ·intro e;simp[Hd.blk]at e
  ·right;intro e;simp[Hd.blk]at e;omega
 have HW4:=(show Hid _ from hW4.symm);rw[hz3']at HW4 A4;clear hW4 hk3 hg3 HZ2 K2 hO Hsz1 z1 hz3;obtain⟨hv,hhv⟩:∃hv:Hd,hv=⟨some ⟨w.heap.size,0,none⟩,vs.length⟩:=⟨_,rfl⟩
 obtain⟨hm,hhm⟩:∃hm:Hd,hm=⟨some ⟨w.heap.size+1,0,none⟩,q⟩:=⟨_,rfl⟩
 rw[<-hhv,<-hhm]at A4
 have HB:Hid (∀x,hv.blk=some x∨hm.blk=some x->w.heap.size<=x/\x<=w.heap.size+1):=by
  intro x hx;rw[hhv,hhm]at hx;simp[Hd.blk]at hx;omega
 clear hhv hhm;go_enter Tryz.func209,Tryz.ntmps209
 go_upto_region 4 with fail
 rw[HW4.out];clear HW4 m1 m2 cp1 K3 hz3';go_wp2
 go_loopg [9] l.length (fun gk i wr=>∃k:Nat,k<=l.length/\gk=l.length-k/\i=.int .i64 k/\jC wr (w.heap.size+1+1) vs (de l a vs k) hv hm/\ab [] w wr)
 case atStart=>exact⟨0,by omega,by omega,rfl,A4,K4⟩
 case round =>
  obtain⟨k,hk,hg,rfl,hA,hK⟩:=hrel;have hr:=h.still hK;have hal:=hA.lt;clear A4 K4
  by_cases hlt:k<l.length
  ·have HD:=(show Hid _ from IM l a k hlt)
   have hsk:=ok.syms k hlt;have hpk:=ok.pos k hlt;have SY:Hid (fR l k=l[k].symbols):=mm l k hlt;have HU:Hid (de l a vs (k+1)=if Cx l a k=true then lm vs.length (bO vs (fR l k)) (de l a vs k) else de l a vs k):=rfl
   cases hkd:(l[k].kind==1)
   ·have HT:Hid (de l a vs (k+1)=de l a vs k):=by show _=_;rw[HU.out,HD.out,hkd];simp
    clear HD HU SY;go_wp2_with (first | (go_at_call 80;refine(dR b o l H _ (by exact hr)).mono ?_;rintro e wc ⟨rfl,rfl⟩) | (go_at_call 97;refine(bb b o k l H _ (by exact hr) hlt).mono ?_;rintro e w5 ⟨rfl,hk5⟩;unfold eI))
    go_roundg (l.length-(k+1))
    case measure=>omega
    case rel=>exact⟨k+1,by omega,rfl,by go_num,by rw[HT.out];exact(hA.still hk5).still ((ab.refl [] _).alloc _),(hK.trans hk5).alloc _⟩
   ·go_wp2_with (first | (go_at_call 80;refine(dR b o l H _ (by exact hr)).mono ?_;rintro e wc ⟨rfl,hwc⟩;rw[hwc]) | (go_at_call 97;refine(bb b o k l H _ (by exact hr) hlt).mono ?_;rintro e w5 ⟨rfl,hk5⟩;unfold eI))
    obtain⟨W6,hW6⟩:∃W6,W6=w5.alloc (.cells #[.int .i64 l[k].kind,.string l[k].label,.slice (H (10+2*k)).ao l[k].symbols.length (H (10+2*k)).cap,.slice (H (11+2*k)).ao l[k].proof.length (H (11+2*k)).cap,.string l[k].fin.file,.int .i64 l[k].fin.line,.int .i64 l[k].fin.col,.int .i64 l[k].til] 158):=⟨_,rfl⟩
    rw[<-hW6];have k6:ab [] wr W6:=by rw[hW6];exact hk5.alloc _
    have B6:W6.heap[w5.heap.size]?=some (.cells #[.int .i64 l[k].kind,.string l[k].label,.slice (H (10+2*k)).ao l[k].symbols.length (H (10+2*k)).cap,.slice (H (11+2*k)).ao l[k].proof.length (H (11+2*k)).cap,.string l[k].fin.file,.int .i64 l[k].fin.line,.int .i64 l[k].fin.col,.int .i64 l[k].til] 158 (0,0)):=by rw[hW6];exact heap_alloc_new _ _
    have q2:W6.cell? ⟨w5.heap.size,2,none⟩=some (.slice (H (10+2*k)).ao l[k].symbols.length (H (10+2*k)).cap):=by rw[aa B6];rfl
    have hr6:=hr.still k6;have hA6:=hA.still k6;have hK6:=hK.trans k6;have hV6:=(hr6.sts.syms k l[k] (List.getElem?_eq_getElem hlt)).view;clear hW6 hk5 k6 B6 hr hA hK
    cases hh:io l k a
    ·have HT:Hid (de l a vs (k+1)=de l a vs k):=by show _=_;rw[HU.out,HD.out,hh];simp
     clear HD HU SY;go_wp2_with (go_at_call 187;refine(fA b o k a l H _ (by exact hr6) hlt).mono ?_;rintro e w7 ⟨rfl,rfl⟩)
     go_roundg (l.length-(k+1))
     case measure=>omega
     case rel=>exact⟨k+1,by omega,rfl,by go_num,by rw[HT.out];exact hA6,hK6⟩
    ·have HT:Hid (de l a vs (k+1)=lm vs.length (bO vs l[k].symbols) (de l a vs k)):=by show _=_;rw[HU.out,HD.out,hkd,hh,SY.out];simp
     clear HD HU SY;go_wp2_with (first | (go_at_call 187;refine(fA b o k a l H _ (by exact hr6) hlt).mono ?_;rintro e w7 ⟨rfl,hw7⟩;rw[hw7]) | (go_at_call 238;refine(vi (w.heap.size+1+1) vs (de l a vs k) hv hm (H (10+2*k)) l[k].symbols _ (by exact hA6) (by omega) (by exact hV6) (by omega)).mono ?_;rintro e w8 ⟨hd,rfl,hO8,hN8,hk8⟩));have hA8:=hA6.still hk8;have hpl:=oO vs l[k].symbols
     refine(za (w.heap.size+1+1) vs (de l a vs k) hv hm hd (bO vs l[k].symbols) _ hA8 (lI _ _ _ _) hvl hO8 (by omega) (fun i hi=>xw vs l[k].symbols i hi) (by
      intro x hx e;have h1:=hN8 x hx;have h2:=HB.out x (Or.inr e);have h3:=hA6.lt
      omega)).mono ?_
     rintro e w9 ⟨rfl,hA9,hk9⟩;have hK9:=(hK6.trans hk8).ofP hk9 (fun x hx=>(HB.out x (Or.inr hx)).1);go_wp2
     go_roundg (l.length-(k+1))
     case measure=>omega
     case rel=>exact⟨k+1,by omega,rfl,by go_num,by rw[HT.out];exact hA9,hK9⟩
  ·have e:k=l.length:=by omega
   subst e;go_wp2_with (go_at_call 80;refine(dR b o l H _ (by exact hr)).mono ?_;rintro e wc ⟨rfl,rfl⟩);go_ret;exact⟨w.heap.size+1+1,hv,hm,rfl,hA,by omega,fun x hx=>(HB.out x hx).1,hK⟩
structure aR(w:World)(b t:Nat)(cs:List Value)(rows:Nat->dK)(H:Nat->Hd):Prop where
 blk:w.heap[b]?=some (.cells cs.toArray t (0,0))
 own:∀i,aA w (H i) (rows i)
 apart:∀i j,i≠j->(H i).blk=none∨(H i).blk≠(H j).blk
 off:∀i,(H i).blk≠some b
theorem aR.lt{w:World}{b t:Nat}{cs:List Value}{rows:Nat->dK}{H:Nat->Hd}(h:aR w b t cs rows H):b<w.heap.size:=ae h.blk
theorem aR.inlt{w:World}{b t:Nat}{cs:List Value}{rows:Nat->dK}{H:Nat->Hd}(h:aR w b t cs rows H){k:Nat}(hk:fm H k):k<w.heap.size:=by
 obtain⟨i,hi⟩:=hk;exact(h.own i).lt hi
theorem aR.free{w:World}{b t:Nat}{cs:List Value}{rows:Nat->dK}{H:Nat->Hd}(h:aR w b t cs rows H)(i:Nat):w.frozen? ⟨b,i,none⟩=false:=ak h.blk i
theorem aR.cell{w:World}{b t:Nat}{cs:List Value}{rows:Nat->dK}{H:Nat->Hd}(h:aR w b t cs rows H)(i:Nat):w.cell? ⟨b,i,none⟩=cs[i]?:=by rw[aa h.blk];simp
theorem aR.keptP{w w':World}{b t:Nat}{cs:List Value}{rows:Nat->dK}{H:Nat->Hd}{P:Nat->Prop}(h:aR w b t cs rows H)(hk:dQ P w w')(hb:¬P b)(hs:∀k,fm H k->¬P k):aR w' b t cs rows H :=
 ⟨hk.get h.blk hb,fun i=>(h.own i).moved (fun k hk'=>hk.block k ((h.own i).lt hk') (hs k ⟨i,hk'⟩)),h.apart,h.off⟩
theorem aR.kept{w w':World}{b t:Nat}{cs:List Value}{rows:Nat->dK}{H:Nat->Hd}{S:List Nat}(h:aR w b t cs rows H)(hk:ab S w w')(hb:b∉S)(hs:∀k,fm H k->k∉S):aR w' b t cs rows H :=
 h.keptP (hk.toP (P:=(·∈S)) (fun _ hm _=>hm)) hb hs
theorem aR.still{w w':World}{b t:Nat}{cs:List Value}{rows:Nat->dK}{H:Nat->Hd}(h:aR w b t cs rows H)(hk:ab [] w w'):aR w' b t cs rows H:=h.kept hk (by simp) (by simp)
theorem aR.put{w w1:World}{b t:Nat}{cs:List Value}{rows rows':Nat->dK}{H:Nat->Hd}(h:aR w b t cs rows H)(c i:Nat)(h':Hd)
  (o1:aA w1 h' (rows' i)) (hg:w.grownBy w1 (H i).blk)
  (hf:h'.blk=none∨h'.blk=(H i).blk∨∃g,h'.blk=some g/\w.heap.size<=g) (hrow:∀j,j≠i->rows' j=rows j) (u:Value) :
  aR (w1.setCell ⟨b,c,none⟩ u) b t (cs.set c u) rows' (fM H i h')/\aw b w H (w1.setCell ⟨b,c,none⟩ u) (fM H i h'):=by
 have hb:=h.lt;have hb1:w1.heap[b]?=some (.cells cs.toArray t (0,0)):=(hg.block b hb (fun e=>h.off i e.symm)).trans h.blk
 have hoff:∀j,(fM H i h' j).blk≠some b:=by
  intro j
  by_cases e:j=i
  ·subst e;rw[cK];intro hx
   rcases hf with hf | hf | ⟨g,hf,hg'⟩
   ·rw[hf]at hx;cases hx
   ·exact h.off j (hf ▸ hx)
   ·rw[hf]at hx;cases hx;omega
  ·rw[bL _ _ _ _ e];exact h.off j
 refine⟨⟨?_,?_,?_,hoff⟩,⟨hg.os,hg.tape,hg.output,by have:=hg.size;simp[World.setCell];omega,?_⟩,?_⟩
 ·rw[ah hb1,List.setIfInBounds_toArray]
 ·intro j
  have q:aA w1 (fM H i h' j) (rows' j):=by
   by_cases e:j=i
   ·subst e;rw[cK];exact o1
   ·rw[bL _ _ _ _ e,hrow j e]
    refine(h.own j).moved (fun k hk=>hg.block k ((h.own j).lt hk) ?_);intro ek
    rcases h.apart j i e with a | a
    ·rw[a]at hk;cases hk
    ·exact a (hk.trans ek)
  refine q.moved (fun k hk=>Below.heap_setCell _ _ _ _ ?_);rintro rfl;exact hoff j hk
 ·intro j l hne
  by_cases e:j=i
  ·subst e
   rw[cK,bL _ _ _ _ (fun e=>hne e.symm)]
   rcases hf with hf | hf | ⟨g,hf,hg'⟩
   ·exact Or.inl hf
   ·rw[hf];exact h.apart j l hne
   ·right;rw[hf];intro ek;have:=(h.own l).lt ek.symm;omega
  ·rw[bL _ _ _ _ e]
   by_cases e2:l=i
   ·subst e2
    rw[cK]
    rcases hf with hf | hf | ⟨g,hf,hg'⟩
    ·rw[hf];cases (H j).blk <;> simp
    ·rw[hf];exact h.apart j l hne
    ·cases hx:(H j).blk with
     | none=>exact Or.inl rfl
     | some k=>right;rw[hf];intro ek;cases ek;have:=(h.own j).lt hx;omega
   ·rw[bL _ _ _ _ e2];exact h.apart j l hne
 ·intro k hk hn
  rw[Below.heap_setCell _ _ _ _ (fun e=>hn (Or.inl e))];exact hg.block k hk (fun e=>hn (Or.inr ⟨i,e.symm⟩))
 ·intro k hk
  obtain⟨j,e⟩:=hk
  by_cases ei:j=i
  ·subst ei
   rw[cK]at e
   rcases hf with hf | hf | ⟨g,hf,hg'⟩
   ·rw[hf]at e;cases e
   ·exact Or.inl ⟨j,hf ▸ e⟩
   ·rw[hf]at e;cases e;exact Or.inr hg'
  ·rw[bL _ _ _ _ ei]at e
   exact Or.inl ⟨j,e⟩
theorem aR.set{w:World}{b t:Nat}{cs:List Value}{rows:Nat->dK}{H:Nat->Hd}(h:aR w b t cs rows H)(c:Nat)(u:Value) :
  aR (w.setCell ⟨b,c,none⟩ u) b t (cs.set c u) rows H/\aw b w H (w.setCell ⟨b,c,none⟩ u) H:=by
 refine⟨⟨?_,?_,h.apart,h.off⟩,(dQ.refl _ _).setCell (Or.inl (Or.inl rfl)) _,fun _ hk=>Or.inl hk⟩
 ·rw[ah h.blk,List.setIfInBounds_toArray]
 ·intro j
  refine(h.own j).moved (fun k hk=>Below.heap_setCell _ _ _ _ ?_);rintro rfl;exact h.off j hk
theorem aR.app{w w1:World}{b t:Nat}{cs cs':List Value}{rows rows':Nat->dK}{H:Nat->Hd}(h:aR w b t cs rows H)(c i g cap' m:Nat)(r:dK)
  (hw1:aA w1 ⟨some ⟨g,0,none⟩,cap'⟩ r) (hr:r=rows' i) (hgr:w.grownBy w1 (H i).blk) (hfresh:(H i).blk=some g∨w.heap.size<=g)
  (hrow:∀j,j≠i->rows' j=rows j) (v0:Value) (hv:cs[c]?=some v0) (hl:cs.set c (.slice (some ⟨g,0,none⟩) m cap')=cs') :
  w1.cell? ⟨b,c,none⟩=some v0/\w1.frozen? ⟨b,c,none⟩=false /\
  Hid (aR (w1.setCell ⟨b,c,none⟩ (.slice (some ⟨g,0,none⟩) m cap')) b t cs' rows' (fM H i ⟨some ⟨g,0,none⟩,cap'⟩) /\
   aw b w H (w1.setCell ⟨b,c,none⟩ (.slice (some ⟨g,0,none⟩) m cap')) (fM H i ⟨some ⟨g,0,none⟩,cap'⟩)):=by
 have hk:=(hgr.block b h.lt (fun e=>h.off i e.symm)).trans h.blk;subst hr;subst hl;refine⟨by rw[aa hk];simpa using hv,ak hk _,?_⟩
 exact h.put (rows':=rows') c i ⟨some ⟨g,0,none⟩,cap'⟩ hw1 hgr
  (by
    rcases hfresh with e | e
    ·exact Or.inr (Or.inl e.symm)
    ·exact Or.inr (Or.inr ⟨g,rfl,by simpa using e⟩)) hrow _
structure lW where
 kind:Int
 number:Nat
 at_:Pl
def jK(s:lW):List Value:=[.int .i64 s.kind,.int .i64 s.number,.string s.at_.file,.int .i64 s.at_.line,.int .i64 s.at_.col]
def uF(l:List lW):List Value:=l.flatMap jK
def fq(l:List lW):dK:=⟨174,5,l.length,uF l⟩
theorem rh(l:List lW)(s:lW):(⟨(fq l).e,(fq l).size,(fq l).n+1,(fq l).xs++jK s⟩:dK)=fq (l++[s]):=by simp[fq,uF]
theorem rr(s:lW):∀u∈jK s,u.oneCell'=true:=by
 intro u hu;simp only[jK,List.mem_cons,List.not_mem_nil,or_false]at hu
 rcases hu with rfl | rfl | rfl | rfl | rfl <;> rfl
theorem J5:(Tryz.prog.info? 174).map (fun i=>(i.zero,i.size,i.bytes))=some (some (.agg #[.int .i64 0,.int .i64 0,.string ⟨#[]⟩,.int .i64 0,.int .i64 0]),5,48):=by kernel_rfl
structure kM where
 names:List Nat
 tagged:List Nat
 steps:List lW
 digits:Nat
 behind:Bool
def uq(c:kM):Nat->dK
 | 0=>bq c.names
 | 1=>bq c.tagged
 | 2=>fq c.steps
 | _+3=>bq []
def j8(c:kM)(H:Nat->Hd):List Value :=
 [.slice (H 0).ao c.names.length (H 0).cap,.slice (H 1).ao c.tagged.length (H 1).cap,.slice (H 2).ao c.steps.length (H 2).cap,.int .i64 c.digits,.bool c.behind]
def dq(w:World)(b:Nat)(c:kM)(H:Nat->Hd):Prop:=aR w b 279 (j8 c H) (uq c) H
theorem dq.cells{w:World}{b:Nat}{c:kM}{H:Nat->Hd}(h:dq w b c H) :
  w.cell? ⟨b,0,none⟩=some (.slice (H 0).ao c.names.length (H 0).cap)/\w.cell? ⟨b,1,none⟩=some (.slice (H 1).ao c.tagged.length (H 1).cap)/\w.cell? ⟨b,2,none⟩=some (.slice (H 2).ao c.steps.length (H 2).cap) /\
  w.cell? ⟨b,3,none⟩=some (.int .i64 c.digits)/\w.cell? ⟨b,4,none⟩=some (.bool c.behind) :=
 ⟨aR.cell h 0,aR.cell h 1,aR.cell h 2,aR.cell h 3,aR.cell h 4⟩
structure fy(c:kM)(N:Nat):Prop where
 names:c.names.length<=N
 tagged:c.tagged.length<=N
 steps:c.steps.length<=N
 digits:c.digits<=10*N+5
 behind:c.behind=true->0<c.steps.length
def dL(c:kM)(s:lW):kM:={ c with steps:=c.steps++[s],behind:=false }
set_option maxRecDepth 100000 in
theorem nz(b:Nat)(c:kM)(H:Nat->Hd)(k:Int)(n:Nat)(f:ByteArray)(l co:Int)(w:World)(h:dq w b c H)(ok:fy c 10000000) :
  Calls Tryz.prog 244 #[.pointer (some ⟨b,0,none⟩),.agg #[.int .i64 k,.int .i64 n,.string f,.int .i64 l,.int .i64 co]] w fun e w'=>e=.returned (.tuple #[])/\∃H',dq w' b (dL c ⟨k,n,⟨f,l,co⟩⟩) H'/\aw b w H w' H'/\∀j,j≠2->H' j=H j:=by
 obtain⟨i0,hi,hz0,hz1,hz2⟩:=info_parts J5;have hsl:=ok.steps;obtain⟨W,hW⟩:∃W,W=w.alloc (.cells #[.int .i64 k,.int .i64 n,.string f,.int .i64 l,.int .i64 co] 174):=⟨_,rfl⟩
 have K:ab [] w W:=by rw[hW];exact(ab.refl [] _).alloc _
 have hC:dq W b c H:=aR.still h K;have B:W.heap[w.heap.size]?=some (.cells #[.int .i64 k,.int .i64 n,.string f,.int .i64 l,.int .i64 co] 174 (0,0)):=by rw[hW];exact heap_alloc_new _ _
 have y0:W.cell? ⟨w.heap.size,0,none⟩=some (.int .i64 k):=by rw[aa B];rfl
 have y1:W.cell? ⟨w.heap.size,1,none⟩=some (.int .i64 n):=by rw[aa B];rfl
 have y2:W.cell? ⟨w.heap.size,2,none⟩=some (.string f):=by rw[aa B];rfl
 have y3:W.cell? ⟨w.heap.size,3,none⟩=some (.int .i64 l):=by rw[aa B];rfl
 have y4:W.cell? ⟨w.heap.size,4,none⟩=some (.int .i64 co):=by rw[aa B];rfl
 obtain⟨c0,c1,c2,c3,c4⟩:=hC.cells;clear c0 c1 c3;have hfr:=aR.free hC;have hbW:=aR.lt hC;have hwW:=ae B;have hD:Hid (dq (W.alloc (.cells #[.int .i64 k,.int .i64 n,.string f,.int .i64 l,.int .i64 co] 174)).drew b c H):=aR.still hC ((ab.refl [] W).alloc _).drew
 have s2:Hid (∀j u,(jK ⟨k,n,⟨f,l,co⟩⟩)[j]?=some u->(W.alloc (.cells #[.int .i64 k,.int .i64 n,.string f,.int .i64 l,.int .i64 co] 174)).drew.cell? ((⟨W.heap.size,0,none⟩:Addr).add j)=some u):=by
  intro j u hj;have hk:(W.alloc (.cells #[.int .i64 k,.int .i64 n,.string f,.int .i64 l,.int .i64 co] 174)).drew.heap[W.heap.size]?=some (.cells #[.int .i64 k,.int .i64 n,.string f,.int .i64 l,.int .i64 co] 174 (0,0)):=heap_alloc_new _ _;rw[bK,aa hk];simpa [jK] using hj
 have s4:Hid ((fq c.steps).n+1<=maxLen):=by show _<=_;simp only[fq];unfold maxLen;omega
 have s5:Hid (((fq c.steps).n+1)*48<=140737488355328):=by show _<=_;simp only[fq];omega
 have HW:=(show Hid _ from hW.symm)
 have hrw:Hid (∀j,j≠2->uq { c with steps:=c.steps++[⟨k,n,⟨f,l,co⟩⟩] } j=uq c j):=by
  intro j hj
  match j,hj with
  | 0,_=>rfl
  | 1,_=>rfl
  | 2,hj=>exact absurd rfl hj
  | m+3,_=>rfl
 clear hW B h;go_enter Tryz.func244,Tryz.ntmps244
 go_upto_region 1 with fail
 rw[HW.out]
 go_region_law (refine ce rfl (.tmp 8) (.tmp 10) 163 rfl i0 (.agg #[.int .i64 0,.int .i64 0,.string ⟨#[]⟩,.int .i64 0,.int .i64 0]) 48 (H 2) (fq c.steps) Tryz.underlying163 hi hz0 hz1 hz2 rfl (Nat.succ_pos 4) (by simp[Act.eval] <;> rfl) (aR.own hD.out 2) ⟨W.heap.size,0,none⟩ 1 1 (jK ⟨k,n,⟨f,l,co⟩⟩) (by simp[Act.eval]) rfl s2.out (rr _) Nat.one_pos s4.out s5.out ?_;intro g cap' w1 hw1 hgr hfresh;obtain⟨k5,f5,HP⟩:=aR.app hD.out (cs':=j8 { c with steps:=c.steps++[⟨k,n,⟨f,l,co⟩⟩] } (fM H 2 ⟨some ⟨g,0,none⟩,cap'⟩)) (rows':=uq { c with steps:=c.steps++[⟨k,n,⟨f,l,co⟩⟩] }) 2 2 g cap' ((fq c.steps).n+1) _ hw1 (rh c.steps ⟨k,n,⟨f,l,co⟩⟩) hgr (by simpa using hfresh) hrw.out (.slice (H 2).ao c.steps.length (H 2).cap) rfl (by simp[j8,fM,fq]);clear hw1 hgr hfresh)
 all_goals
  have D2:=(show Hid _ from aR.set HP.out.1 4 (.bool false));have hb4:=(aR.cell HP.out.1 4);have hf4:=aR.free HP.out.1;simp only[j8,List.getElem?_cons_succ,List.getElem?_cons_zero]at hb4;clear c2 c4 hfr y0 y1 y2 y3 y4 k5 f5;go_wp2;go_end0;exact⟨rfl,_,D2.out.1,((HP.out.2.first ((ab.refl [] _).alloc _).drew).first K).trans D2.out.2,fun j hj=>bL _ _ _ _ hj⟩
def lu(c:kM)(d:Nat):kM:=if c.digits<=c.names.length+c.tagged.length then { c with behind:=false,digits:=c.digits*5+d } else { c with behind:=false }
theorem dq.digs{w:World}{b:Nat}{c:kM}{H:Nat->Hd}(h:dq w b c H)(n:Nat):Hid (dq (w.setCell ⟨b,3,none⟩ (.int .i64 n)) b { c with digits:=n } H/\aw b w H (w.setCell ⟨b,3,none⟩ (.int .i64 n)) H):=aR.set h 3 (.int .i64 n)
theorem dq.beh{w:World}{b:Nat}{c:kM}{H:Nat->Hd}(h:dq w b c H)(x:Bool):Hid (dq (w.setCell ⟨b,4,none⟩ (.bool x)) b { c with behind:=x } H/\aw b w H (w.setCell ⟨b,4,none⟩ (.bool x)) H):=aR.set h 4 (.bool x)
theorem dq.still{w w':World}{b:Nat}{c:kM}{H:Nat->Hd}(h:dq w b c H)(k:ab [] w w'):dq w' b c H:=aR.still h k
set_option maxRecDepth 100000 in
theorem vo(b:Nat)(c:kM)(H:Nat->Hd)(d:Nat)(w:World)(h:dq w b c H)(ok:fy c 10000000)(hd:d<=5) :
  Calls Tryz.prog 243 #[.pointer (some ⟨b,0,none⟩),.int .i64 d] w fun e w'=>e=.returned (.tuple #[])/\dq w' b (lu c d) H/\aw b w H w' H:=by
 have h1:=ok.names;have h2:=ok.tagged;have h3:=ok.digits;obtain⟨c0,c1,c2,c3,c4⟩:=h.cells;have hfr:=aR.free h;have HB:=h.beh false;obtain⟨w2,hw2⟩:∃w2,w2=w.setCell ⟨b,4,none⟩ (.bool false):=⟨_,rfl⟩
 have HW:=(show Hid _ from hw2.symm);rw[<-hw2]at HB;clear hw2
 by_cases hle:c.digits<=c.names.length+c.tagged.length
 ·have HT:Hid (lu c d={ c with behind:=false,digits:=c.digits*5+d }):=if_pos hle
  go_enter Tryz.func243,Tryz.ntmps243
  go_upto_region 1 with fail
  rw[HW.out];clear c0 c1 c2 c3 c4 hfr HW;obtain⟨c0,c1,c2,c3,c4⟩:=HB.out.1.cells;simp only at c0 c1 c3;clear c2 c4;have hfr:=aR.free HB.out.1;have hle':(c.digits:Int)<=(c.names.length:Int)+(c.tagged.length:Int):=by omega
  go_quiet (fail)
  have HD:=HB.out.1.digs (c.digits*5+d);rw[show((c.digits*5+d:Nat):Int)=(c.digits:Int)*5+(d:Int) by omega]at HD;go_wp2;go_end0;exact⟨rfl,by rw[HT.out];exact HD.out.1.still ((ab.refl [] _).drewN nq),aw.trans HB.out.2 (aw.still HD.out.2 ((ab.refl [] _).drewN nq))⟩
 ·have HT:Hid (lu c d={ c with behind:=false }):=if_neg hle
  go_enter Tryz.func243,Tryz.ntmps243
  go_upto_region 1 with fail
  rw[HW.out];clear c0 c1 c2 c3 c4 hfr HW;obtain⟨c0,c1,c2,c3,c4⟩:=HB.out.1.cells;simp only at c0 c1 c3;clear c2 c4
  go_quiet (fail)
  go_wp2;go_end0;exact⟨rfl,by rw[HT.out];exact HB.out.1.still ((ab.refl [] _).drewN nq),aw.still HB.out.2 ((ab.refl [] _).drewN nq)⟩
def jm(c:kM)(u:Nat)(p:Pl):Int×kM :=
 if c.digits*20+u-1<c.names.length then(0,{ dL { c with digits:=0 } ⟨2,c.names.getD (c.digits*20+u-1) 0,p⟩ with behind:=true })
 else if c.digits*20+u-1-c.names.length<c.tagged.length then(0,{ dL { c with digits:=0 } ⟨3,c.tagged.getD (c.digits*20+u-1-c.names.length) 0,p⟩ with behind:=true })
 else(5,{ c with digits:=0 })
theorem Lm(l:List Nat)(k:Nat)(h:k<l.length):l.getD k 0=l[k]:=by rw[List.getD_eq_getElem?_getD,List.getElem?_eq_getElem h];rfl
theorem FX(w:World)(f:ByteArray)(l c:Int) :
  ∃W,Hid (w.alloc (.cells #[.string f,.int .i64 l,.int .i64 c] 36)=W)/\ab [] w W/\W.heap[w.heap.size]?=some (.cells #[.string f,.int .i64 l,.int .i64 c] 36 (0,0))/\W.cell? ⟨w.heap.size,0,none⟩=some (.string f)/\W.cell? ⟨w.heap.size,1,none⟩=some (.int .i64 l)/\W.cell? ⟨w.heap.size,2,none⟩=some (.int .i64 c):=by
 have B:(w.alloc (.cells #[.string f,.int .i64 l,.int .i64 c] 36)).heap[w.heap.size]?=some (.cells #[.string f,.int .i64 l,.int .i64 c] 36 (0,0)):=heap_alloc_new _ _;refine⟨_,rfl,(ab.refl [] _).alloc _,B,?_,?_,?_⟩ <;> rw[aa B] <;> rfl
set_option maxRecDepth 100000 in
theorem tC(b:Nat)(c:kM)(H:Nat->Hd)(u:Nat)(f:ByteArray)(l co:Int)(w:World)(h:dq w b c H)(ok:fy c 10000000)(hu:1<=u)(hu2:u<=20) :
  Calls Tryz.prog 242 #[.pointer (some ⟨b,0,none⟩),.int .i64 u,.agg #[.string f,.int .i64 l,.int .i64 co]] w fun e w'=>e=.returned (.int .i64 (jm c u ⟨f,l,co⟩).1)/\∃H',dq w' b (jm c u ⟨f,l,co⟩).2 H'/\aw b w H w' H':=by
 have h1:=ok.names;have h2:=ok.tagged;have h3:=ok.digits;obtain⟨W,HW,K,B,p0,p1,p2⟩:=FX w f l co;have hC:=h.still K;have hnb:w.heap.size≠b:=by have:=aR.lt h;omega
 have HNI:Hid (∀k,fm H k->k≠w.heap.size):=fun k hk=>by have:=aR.inlt h hk;omega
 obtain⟨c0,c1,c2,c3,c4⟩:=hC.cells;have hfr:=aR.free hC;have HD:Hid (dq (W.setCell ⟨b,3,none⟩ (.int .i64 0)) b { c with digits:=0 } H/\aw b W H (W.setCell ⟨b,3,none⟩ (.int .i64 0)) H):=hC.digs 0;obtain⟨w2,hw2⟩:∃w2,w2=W.setCell ⟨b,3,none⟩ (.int .i64 0):=⟨_,rfl⟩
 have HW2:=(show Hid _ from hw2.symm);rw[<-hw2]at HD;have B2:w2.heap[w.heap.size]?=some (.cells #[.string f,.int .i64 l,.int .i64 co] 36 (0,0)):=by rw[hw2];exact(Below.heap_setCell _ _ _ _ hnb).trans B
 have r0:w2.cell? ⟨w.heap.size,0,none⟩=some (.string f):=by rw[aa B2];rfl
 have r1:w2.cell? ⟨w.heap.size,1,none⟩=some (.int .i64 l):=by rw[aa B2];rfl
 have r2:w2.cell? ⟨w.heap.size,2,none⟩=some (.int .i64 co):=by rw[aa B2];rfl
 clear hw2 h;have ok0:fy { c with digits:=0 } 10000000:=⟨h1,h2,ok.steps,Nat.zero_le _,ok.behind⟩;have hdg:Hid (c.digits*20+u-1=c.digits*20+(u-1)):=by show _=_;omega
 obtain⟨v,hv⟩:∃v,u=v+1:=⟨u-1,by omega⟩
 subst hv;have e1:Hid (c.digits*20+(v+1)-1=c.digits*20+v):=by show _=_;omega
 have hi1:(c.digits:Int)*20+((v:Int)+1)-1=((c.digits*20+v:Nat):Int):=by omega
 obtain⟨ix,hix⟩:∃ix,c.digits*20+v=ix:=⟨_,rfl⟩
 have HE:Hid (jm c (v+1) ⟨f,l,co⟩=if ix<c.names.length then(0,{ dL { c with digits:=0 } ⟨2,c.names.getD ix 0,⟨f,l,co⟩⟩ with behind:=true }) else if ix-c.names.length<c.tagged.length then(0,{ dL { c with digits:=0 } ⟨3,c.tagged.getD (ix-c.names.length) 0,⟨f,l,co⟩⟩ with behind:=true }) else(5,{ c with digits:=0 })):=by
  show _=_;unfold jm;rw[e1.out,hix]
 rw[hix]at hi1;have hixl:ix<=4000000000:=by omega
 go_enter Tryz.func242,Tryz.ntmps242
 go_upto_region 1 with fail
 rw[HW.out]
 go_upto_region 3 with fail
 rw[HW2.out];clear HW HW2 c0 c1 c2 c3 c4 hfr p0 p1 p2 hi1 e1 hdg hix;obtain⟨c0,c1,c2,c3,c4⟩:=HD.out.1.cells;simp only at c0 c1;clear c2 c3 c4;have T2:Hid (aw b w H w2 H):=aw.first K HD.out.2
 by_cases h4:ix<c.names.length
 ·have hg:=Lm c.names ix h4
  have HT:Hid (jm c (v+1) ⟨f,l,co⟩=(0,{ dL { c with digits:=0 } ⟨2,c.names[ix],⟨f,l,co⟩⟩ with behind:=true })):=by show _=_;rw[HE.out,if_pos h4,hg]
  have hO:aA w2 (H 0) (bq c.names):=aR.own HD.out.1 0
  rcases hO.ways with ⟨_,h0,_⟩ | ⟨g,cur,e1,-,e3,-⟩
  ·have:c.names.length=0:=h0
   omega
  ·have pe:=hO.cell e1 ix (.int .i64 c.names[ix]) (kc c.names ix h4)
   rw[e1]at c0;have hcp:c.names.length<=(H 0).cap:=e3;generalize c.names[ix]=nx at *;clear hO HE c1 hg
   go_upto_region 4 with fail
   go_region_with (go_at_call 244;refine(nz b { c with digits:=0 } H 2 nx f l co _ (by exact HD.out.1.still (ab.refl [] _).drew) ok0).mono ?_;rintro e w9 ⟨rfl,H9,D9,T9,-⟩)
   all_goals
    have KB:=D9.beh true;obtain⟨d0,d1,d2,d3,d4⟩:=D9.cells;have hf9:=aR.free D9;clear d0 d1 d2 d3 pe c0 r0 r1 r2;go_wp2;go_ret;exact⟨am (by rw[HT.out]),H9,by rw[HT.out];exact KB.out.1,aw.trans T2.out (aw.trans (aw.first (ab.refl [] _).drew T9) KB.out.2)⟩
 ·have hs4:(ix:Int)-(c.names.length:Int)=((ix-c.names.length:Nat):Int):=by omega
  by_cases h5:ix-c.names.length<c.tagged.length
  ·have hg:=Lm c.tagged (ix-c.names.length) h5
   have HT:Hid (jm c (v+1) ⟨f,l,co⟩=(0,{ dL { c with digits:=0 } ⟨3,c.tagged[ix-c.names.length],⟨f,l,co⟩⟩ with behind:=true })):=by show _=_;rw[HE.out,if_neg h4,if_pos h5,hg]
   have hO:aA w2 (H 1) (bq c.tagged):=aR.own HD.out.1 1
   rcases hO.ways with ⟨_,h0,_⟩ | ⟨g,cur,e1,-,e3,-⟩
   ·have:c.tagged.length=0:=h0
    omega
   ·have pe:=hO.cell e1 (ix-c.names.length) (.int .i64 c.tagged[ix-c.names.length]) (kc c.tagged _ h5)
    rw[e1]at c1;have hcp:c.tagged.length<=(H 1).cap:=e3;generalize c.tagged[ix-c.names.length]=nx at *;clear hO HE hg;generalize hj:ix-c.names.length=j at *
    go_upto_region 9 with fail
    go_region_with (go_at_call 244;refine(nz b { c with digits:=0 } H 3 nx f l co _ (by exact HD.out.1.still (ab.refl [] _).drew) ok0).mono ?_;rintro e w9 ⟨rfl,H9,D9,T9,-⟩)
    all_goals
     have KB:=D9.beh true;obtain⟨d0,d1,d2,d3,d4⟩:=D9.cells;have hf9:=aR.free D9;clear d0 d1 d2 d3 pe c0 c1 r0 r1 r2;go_wp2;go_ret;exact⟨am (by rw[HT.out]),H9,by rw[HT.out];exact KB.out.1,aw.trans T2.out (aw.trans (aw.first (ab.refl [] _).drew T9) KB.out.2)⟩
  ·have HT:Hid (jm c (v+1) ⟨f,l,co⟩=(5,{ c with digits:=0 })):=by show _=_;rw[HE.out,if_neg h4,if_neg h5]
   clear HE;generalize hj:ix-c.names.length=j at *;go_wp2;go_ret;exact⟨am (by rw[HT.out]),H,by rw[HT.out];exact HD.out.1,T2.out⟩
def cg(c:kM)(n:Nat)(p:Pl):Int×kM :=
 if 65<=n/\n<=84 then jm c (n-64) p
 else if 85<=n/\n<=89 then(0,lu c (n-84))
 else if n=90/\c.behind=true then(0,{ c with tagged:=c.tagged++[c.steps.length-1],behind:=false })
 else if n=63/\c.digits=0 then(0,dL c ⟨1,0,p⟩)
 else(4,c)
set_option maxRecDepth 100000 in
theorem uL(b:Nat)(c:kM)(H:Nat->Hd)(n:Nat)(f:ByteArray)(l co:Int)(w:World)(h:dq w b c H)(ok:fy c 10000000)(hn:n<256) :
  Calls Tryz.prog 217 #[.pointer (some ⟨b,0,none⟩),.int .u8 n,.agg #[.string f,.int .i64 l,.int .i64 co]] w fun e w'=>e=.returned (.int .i64 (cg c n ⟨f,l,co⟩).1)/\∃H',dq w' b (cg c n ⟨f,l,co⟩).2 H'/\aw b w H w' H':=by
 have hsl:=ok.steps;have htl:=ok.tagged;obtain⟨W,HW,K,B,p0,p1,p2⟩:=FX w f l co;have hC:=h.still K;clear h;obtain⟨c0,c1,c2,c3,c4⟩:=hC.cells;have hfr:=aR.free hC;have hbW:=aR.lt hC
 by_cases h1:65<=n/\n<=84
 ·have HT:Hid (cg c n ⟨f,l,co⟩=jm c (n-64) ⟨f,l,co⟩):=if_pos h1
  have EN:=fun(w':World) (h':dq w' b c H)=>tC b c H (n-64) f l co w' h' ok (by omega) (by omega)
  have HEN:=(show Hid _ from EN);obtain⟨a1,a2⟩:=h1;have he:(n:Int)-65+1=((n-64:Nat):Int):=by omega
  clear EN c0 c1 c2 c3 c4;generalize hq:n-64=q at *;go_enter Tryz.func217,Tryz.ntmps217
  go_upto_region 1 with fail
  rw[HW.out];go_wp2_with fail;refine(HEN.out _ hC).mono ?_;rintro e w2 ⟨rfl,H2,D2,T2⟩;go_wp2;go_ret;exact⟨am (by rw[HT.out]),H2,by rw[HT.out];exact D2,aw.first K T2⟩
 ·by_cases h2:85<=n/\n<=89
  ·have HT:Hid (cg c n ⟨f,l,co⟩=(0,lu c (n-84))):=by show _=_;unfold cg;rw[if_neg h1,if_pos h2]
   obtain⟨a1,a2⟩:=h2;have TD:=fun(w':World) (h':dq w' b c H)=>vo b c H (n-84) w' h' ok (by omega)
   have HTD:=(show Hid _ from TD);have he:(n:Int)-85+1=((n-84:Nat):Int):=by omega
   have h1':¬n<=84:=by omega
   clear TD c0 c1 c2 c3 c4 h1;generalize hq:n-84=q at *;go_enter Tryz.func217,Tryz.ntmps217
   go_upto_region 1 with fail
   rw[HW.out];go_wp2_with fail;refine(HTD.out _ hC).mono ?_;rintro e w2 ⟨rfl,D2,T2⟩;go_wp2;go_ret;exact⟨am (by rw[HT.out]),H,by rw[HT.out];exact D2,aw.first K T2⟩
  ·by_cases h3:n=90/\c.behind=true
   ·have HT:Hid (cg c n ⟨f,l,co⟩=(0,{ c with tagged:=c.tagged++[c.steps.length-1],behind:=false })):=by show _=_;unfold cg;rw[if_neg h1,if_neg h2,if_pos h3]
    obtain⟨rfl,hbh⟩:=h3;have hpos:=ok.behind hbh;rw[hbh]at c4;obtain⟨sl,hsl'⟩:∃sl,c.steps.length-1=sl:=⟨_,rfl⟩
    have he:(c.steps.length:Int)-1=(sl:Int):=by omega
    rw[hsl']at HT;have hwr:IntKind.i64.wrap (sl:Int)=(sl:Int):=by rw[IntKind.wrap_i64];omega
    obtain⟨i0,hi,hz0,hz1,hz2⟩:=info_parts vS;have hD:Hid (dq (W.alloc (.cells #[.int .i64 sl] 3)).drew b c H):=hC.still ((ab.refl [] W).alloc _).drew
    have s2:Hid (∀j u,([.int .i64 sl]:List Value)[j]?=some u->(W.alloc (.cells #[.int .i64 sl] 3)).drew.cell? ((⟨W.heap.size,0,none⟩:Addr).add j)=some u):=by
     intro j u hj;have hk:(W.alloc (.cells #[.int .i64 sl] 3)).drew.heap[W.heap.size]?=some (.cells #[.int .i64 sl] 3 (0,0)):=heap_alloc_new _ _;rw[bK,aa hk];simpa using hj
    have s3:Hid (∀u∈([.int .i64 sl]:List Value),u.oneCell'=true):=by intro u hu;simp at hu;subst hu;rfl
    have s4:Hid ((bq c.tagged).n+1<=maxLen):=by show _<=_;simp only[bq];unfold maxLen;omega
    have s5:Hid (((bq c.tagged).n+1)*8<=140737488355328):=by show _<=_;simp only[bq];omega
    have hrw:Hid (∀j,j≠1->uq { c with tagged:=c.tagged++[sl] } j=uq c j):=by
     intro j hj
     match j,hj with
     | 0,_=>rfl
     | 1,hj=>exact absurd rfl hj
     | 2,_=>rfl
     | m+3,_=>rfl
    clear c0 c3 h1 h2 p0 p1 p2;go_enter Tryz.func217,Tryz.ntmps217
    go_upto_region 1 with fail
    rw[HW.out];go_wp2_with fail
    go_region_law (refine ce rfl (.tmp 44) (.tmp 51) 26 rfl i0 (.int .i64 0) 8 (H 1) (bq c.tagged) Tryz.underlying26 hi hz0 hz1 hz2 rfl Nat.one_pos (by simp[Act.eval] <;> rfl) (aR.own hD.out 1) ⟨W.heap.size,0,none⟩ 1 1 [.int .i64 sl] (by simp[Act.eval]) rfl s2.out s3.out Nat.one_pos s4.out s5.out ?_;intro g cap' w1 hw1 hgr hfresh;obtain⟨k5,f5,HP⟩:=aR.app hD.out (cs':=j8 { c with tagged:=c.tagged++[sl] } (fM H 1 ⟨some ⟨g,0,none⟩,cap'⟩)) (rows':=uq { c with tagged:=c.tagged++[sl] }) 1 1 g cap' ((bq c.tagged).n+1) _ hw1 (kV c.tagged sl) hgr (by simpa using hfresh) hrw.out (.slice (H 1).ao c.tagged.length (H 1).cap) rfl (by simp[j8,fM,bq]);clear hw1 hgr hfresh)
    all_goals
     have D2:=(show Hid _ from aR.set HP.out.1 4 (.bool false));have hb4:=(aR.cell HP.out.1 4);have hf4:=aR.free HP.out.1;simp only[j8,List.getElem?_cons_succ,List.getElem?_cons_zero,hbh]at hb4;clear c1 c2 c4 hfr k5 f5;go_wp2;go_ret;exact⟨am (by rw[HT.out]),_,by rw[HT.out];exact D2.out.1,((HP.out.2.first ((ab.refl [] _).alloc _).drew).first K).trans D2.out.2⟩
   ·by_cases h4:n=63/\c.digits=0
    ·have HT:Hid (cg c n ⟨f,l,co⟩=(0,dL c ⟨1,0,⟨f,l,co⟩⟩)):=by show _=_;unfold cg;rw[if_neg h1,if_neg h2,if_neg h3,if_pos h4]
     obtain⟨rfl,hdz⟩:=h4;rw[hdz]at c3;clear c0 c1 c2 h1 h2 h3;go_enter Tryz.func217,Tryz.ntmps217
     go_upto_region 1 with fail
     rw[HW.out];go_wp2_with fail;refine(nz b c H 1 0 f l co _ hC ok).mono ?_;rintro e w2 ⟨rfl,H2,D2,T2,-⟩;go_wp2;go_ret;exact⟨am (by rw[HT.out]),H2,by rw[HT.out];exact D2,aw.first K T2⟩
    ·have HT:Hid (cg c n ⟨f,l,co⟩=(4,c)):=by show _=_;unfold cg;rw[if_neg h1,if_neg h2,if_neg h3,if_neg h4]
     clear c0 c1 c2
     by_cases e90:n=90
     ·have hbh:c.behind=false:=by
       cases hq:c.behind with
       | false=>rfl
       | true=>exact absurd ⟨e90,hq⟩ h3
      rw[hbh]at c4;subst e90;clear h1 h2 h3 h4;go_enter Tryz.func217,Tryz.ntmps217
      go_upto_region 1 with fail
      rw[HW.out];go_wp2;go_ret;exact⟨am (by rw[HT.out]),H,by rw[HT.out];exact hC,(aw.refl _ _ _).still K⟩
     ·by_cases e63:n=63
      ·have hdz:¬c.digits=0:=fun hh=>h4 ⟨e63,hh⟩
       have hdz':((c.digits:Int)==0)=false:=beq_eq_false_iff_ne.2 (by omega);subst e63;clear h1 h2 h3 h4 hdz;go_enter Tryz.func217,Tryz.ntmps217
       go_upto_region 1 with fail
       rw[HW.out];go_wp2;go_ret;exact⟨am (by rw[HT.out]),H,by rw[HT.out];exact hC,(aw.refl _ _ _).still K⟩
      ·have e1:((n:Int)==90)=false:=beq_eq_false_iff_ne.2 (by omega)
       have e2:((n:Int)==63)=false:=beq_eq_false_iff_ne.2 (by omega);clear h3 h4 c3 c4
       by_cases a1:65<=n
       ·have a2:¬n<=84:=by omega
        have a3:85<=n:=by omega
        have a4:¬n<=89:=by omega
        clear h1 h2;go_enter Tryz.func217,Tryz.ntmps217
        go_upto_region 1 with fail
        rw[HW.out];go_wp2;go_ret;exact⟨am (by rw[HT.out]),H,by rw[HT.out];exact hC,(aw.refl _ _ _).still K⟩
       ·have a3:¬85<=n:=by omega
        clear h1 h2;go_enter Tryz.func217,Tryz.ntmps217
        go_upto_region 1 with fail
        rw[HW.out];go_wp2;go_ret;exact⟨am (by rw[HT.out]),H,by rw[HT.out];exact hC,(aw.refl _ _ _).still K⟩
end Go.Proofs.YtpddjjabfbfifaaGreat

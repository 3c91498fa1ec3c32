import Derived.Deep.RegionLaw
import Derived.Test.YtpddjjabfbfifaaGreatG37
namespace Go.Proofs.YtpddjjabfbfifaaGreat
open Go.RowKit
set_option maxHeartbeats 40000000
def CD(S:List Sm)(hs:List Nat)(i:Nat):Bool:=((au S (hs.getD i 0)).k.toList == [36,102])
def vo(S:List Sm)(hs:List Nat)(k:Nat):List Nat:=(List.range k).filter (CD S hs)
def cm(T:List Tk)(S:List Sm)(j:Nat):List ByteArray:=bV T (au S j).h
def fG(T:List Tk)(S:List Sm)(hs:List Nat)(k:Nat):List ByteArray:=(vo S hs k).map (fun i=>(cm T S (hs.getD i 0)).getD 1 ⟨#[]⟩)
def fj(S:List Sm)(hs:List Nat)(M:List (List ByteArray))(k:Nat):List (List ByteArray):=(vo S hs k).map (fun i=>(M.getD i []).drop 1)
theorem EQ(S:List Sm)(hs:List Nat)(k:Nat):vo S hs (k+1)=vo S hs k++(if CD S hs k=true then [k] else []):=fK _ _
theorem Bi:(Tryz.prog.info? 61).map (fun i=>(i.zero,i.size,i.bytes))=some (some (.slice none 0 0),1,24):=by kernel_rfl
structure Fo(w wr:World)(V:List ByteArray)(hv:Hd)(B:List Sl)(hb:Hd):Prop where
 r:wr.heap[w.heap.size]?=some (.cells #[.slice none 0 0,.slice none 0 0] 271 (0,0))
 c:wr.heap[w.heap.size+1]?=some (.cells #[.slice hv.ao V.length hv.cap,.slice hb.ao B.length hb.cap] 271 (0,0))
 v:aA wr hv (aD V)
 b:aA wr hb (j4 B)
 fv:∀k,hv.blk=some k->w.heap.size+1<k
 fb:∀k,hb.blk=some k->w.heap.size+1<k
 ap:∀k,hv.blk=some k->hb.blk≠some k
 s:nh w B
 kept:ab [] w wr
section
variable {w wr w5:World} {V V':List ByteArray} {hv hb h5:Hd} {B B':List Sl}
theorem Fo.still(a:Fo w wr V hv B hb)(k:ab [] wr w5):Fo w w5 V hv B hb :=
 ⟨k.get a.r (by simp),k.get a.c (by simp),a.v.still k,a.b.still k,a.fv,a.fb,a.ap,a.s,a.kept.trans k⟩
theorem yV{n:Nat}{h:Hd}(f:∀k,h.blk=some k->n<k)(hn:n<wr.heap.size)(g:bh wr w5 h h5):∀k,h5.blk=some k->n<k:=fun k hk=>by
 rcases g.blk with e | ⟨q,e,hq⟩
 ·exact f k (by rw[<-e];exact hk)
 ·rw[e]at hk;cases hk;omega
theorem ux{h o:Hd}{r:dK}(ap:∀k,h.blk=some k->o.blk≠some k)(ho:aA wr o r)(g:bh wr w5 h h5):∀k,h5.blk=some k->o.blk≠some k:=fun k hk hk2=>by
 rcases g.blk with e | ⟨q,e,hq⟩
 ·exact ap k (by rw[<-e];exact hk) hk2
 ·rw[e]at hk;cases hk
  have:=ho.lt hk2;omega
theorem Fo.addV(a:Fo w wr V hv B hb)(g:bh wr w5 hv h5)(o:aA w5 h5 (aD V')){m:Nat}(hm:m=V'.length):Fo w (w5.setCell ⟨w.heap.size+1,0,none⟩ (.slice h5.ao m h5.cap)) V' h5 B hb:=by
 subst hm;have no:∀q,q<=w.heap.size+1->q∉hv.blk.toList:=fun q hq hm=>by have:=a.fv q (aK hm);omega
 have hz:=ae a.c;have r5:=g.kept.get a.r (no _ (by omega));have c5:=g.kept.get a.c (no _ (by omega));have f5:=yV a.fv hz g;have b5:aA w5 hb (j4 B):=g.beside a.b (fun k hk hk2=>a.ap k hk2 hk);have kS:ab [w.heap.size+1] w5 (w5.setCell ⟨w.heap.size+1,0,none⟩ (.slice h5.ao V'.length h5.cap)):=(ab.refl _ _).setCell (Or.inl (by simp)) _;have k5:ab [] w w5:=nH g.kept (fun q hq=>by have:=a.fv q (aK hq);omega) a.kept;exact⟨kS.get r5 (by simp),by rw[ah c5];rfl,o.moved (fun q hq=>kS.block q (o.lt hq) (by simp;have:=f5 q hq;omega)),b5.moved (fun q hq=>kS.block q (b5.lt hq) (by simp;have:=a.fb q hq;omega)),f5,a.fb,ux a.ap a.b g,a.s,k5.setCell (Or.inr (by simp)) _⟩
theorem Fo.addB(a:Fo w wr V hv B hb)(g:bh wr w5 hb h5)(o:aA w5 h5 (j4 B'))(s:nh w B'){m:Nat}(hm:m=B'.length):Fo w (w5.setCell ⟨w.heap.size+1,1,none⟩ (.slice h5.ao m h5.cap)) V hv B' h5:=by
 subst hm;have no:∀q,q<=w.heap.size+1->q∉hb.blk.toList:=fun q hq hm=>by have:=a.fb q (aK hm);omega
 have hz:=ae a.c;have r5:=g.kept.get a.r (no _ (by omega));have c5:=g.kept.get a.c (no _ (by omega));have f5:=yV a.fb hz g;have v5:aA w5 hv (aD V):=g.beside a.v (fun k hk hk2=>a.ap k hk hk2);have kS:ab [w.heap.size+1] w5 (w5.setCell ⟨w.heap.size+1,1,none⟩ (.slice h5.ao B'.length h5.cap)):=(ab.refl _ _).setCell (Or.inl (by simp)) _;have k5:ab [] w w5:=nH g.kept (fun q hq=>by have:=a.fb q (aK hq);omega) a.kept;have ap5:=ux (h:=hb) (o:=hv) (fun k hk hk2=>a.ap k hk2 hk) a.v g;exact⟨kS.get r5 (by simp),by rw[ah c5];rfl,v5.moved (fun q hq=>kS.block q (v5.lt hq) (by simp;have:=a.fv q hq;omega)),o.moved (fun q hq=>kS.block q (o.lt hq) (by simp;have:=f5 q hq;omega)),a.fv,f5,fun k hk hk2=>ap5 k hk2 hk,s,k5.setCell (Or.inr (by simp)) _⟩
end
theorem DJ{w:World}{B:Nat}{a0 a1:Value}(h:w.heap[B]?=some (.cells #[a0,a1] 271 (0,0)))(v0 v1:Value) :
  (w.setCell ⟨B,0,none⟩ v0).cell? ⟨B,0,none⟩=some v0/\((w.setCell ⟨B,0,none⟩ v0).setCell ⟨B,1,none⟩ v1).cell? ⟨B,1,none⟩=some v1:=by
 have b0:=ah h 0 v0;have b1:=ah b0 1 v1;exact⟨by rw[aa b0];rfl,by rw[aa b1];rfl⟩
theorem nr.tail{w:World}{g o n:Nat}{L:List ByteArray}(a:nr w ⟨some ⟨g,o,none⟩,n,L⟩):nr w ⟨some ⟨g,o+1,none⟩,n-1,L.drop 1⟩:=by
 have hle:=a.le;simp only at hle;refine⟨fun k x hk=>?_,fun h=>(by cases h),(by simp;omega)⟩;simp only[List.getElem?_drop]at hk;obtain⟨g2,o2,e,hg,c⟩:=a.src (1+k) x hk
 cases e
 exact⟨g,o+1,rfl,hg,by rw[show o+1+k=o+(1+k) by omega];exact c⟩
theorem nr.none0{w:World}{ao:Option Addr}{n:Nat}(h:ao=none->n=0):nr w ⟨ao,n,[]⟩:=⟨fun k x hk=>by simp at hk,fun e=>⟨rfl,h e⟩,Nat.zero_le _⟩
set_option maxRecDepth 100000 in
theorem Dw(b n:Nat)(T:List Tk)(aoT:Option Addr)(cT:Nat)(S:List Sm)(aoS:Option Addr)(cS:Nat)(hs:List Nat)(aoH:Option Addr)(cH:Nat)(A:List Sl)(aoA:Option Addr)(cA:Nat)(w:World)(hD:fa w b T aoT cT S aoS cS)(ok:mG T S n)(hH:pE w aoH hs)(hlt:∀j∈hs,j<n)(hHl:hs.length<=10000)(hA:cK w aoA 1 Bx A)(hAS:nh w A)(hHA:hs.length<=A.length)(hF:∀i,i<hs.length->CD S hs i=true->1<(cm T S (hs.getD i 0)).length)(hN:∀s∈A,0<s.L.length) :
  Calls Tryz.prog 177 #[.pointer (some ⟨b,0,none⟩),.slice aoH hs.length cH,.slice aoA A.length cA] w fun e w'=>∃hv hb B,e=.returned (.agg #[.slice hv.ao (fG T S hs hs.length).length hv.cap,.slice hb.ao B.length hb.cap])/\B.map (·.L)=fj S hs (A.map (·.L)) hs.length/\nh w B/\iz w w' hv (aD (fG T S hs hs.length))/\iz w w' hb (j4 B):=by
 have HD:=(show Hid _ from hD);have HOK:=(show Hid _ from ok);have hS2:=ok.sm;have hT2:=ok.tm;have hn:=ok.ok.m;have HH:=(show Hid _ from hH);have HLT:=(show Hid _ from hlt);have HA:=(show Hid _ from hA);have HAS:=(show Hid _ from hAS);have HF:=(show Hid _ from hF);have HN:=(show Hid _ from hN);obtain⟨iS,hiS,hzS0,hzS1,hzS2⟩:=info_parts jI;obtain⟨iL,hiL,hzL0,hzL1,hzL2⟩:=info_parts Bi
 have S0:Hid (Fo w ((w.alloc (.cells #[.slice none 0 0,.slice none 0 0] 271)).alloc (.cells #[.slice none 0 0,.slice none 0 0] 271)) [] ⟨none,0⟩ [] ⟨none,0⟩):=by
  obtain⟨W1,hW1⟩:∃W1,W1=w.alloc (.cells #[.slice none 0 0,.slice none 0 0] 271):=⟨_,rfl⟩
  have z1:W1.heap.size=w.heap.size+1:=by rw[hW1];simp
  have k0:ab [] w W1:=by rw[hW1];exact(ab.refl [] _).alloc _
  have e0:W1.heap[w.heap.size]?=some (.cells #[.slice none 0 0,.slice none 0 0] 271 (0,0)):=by rw[hW1];exact heap_alloc_new _ _
  have k1:ab [] W1 (W1.alloc (.cells #[.slice none 0 0,.slice none 0 0] 271)):=(ab.refl [] _).alloc _
  show Fo _ _ _ _ _ _
  rw[<-hW1];exact⟨k1.get e0 (by simp),by rw[<-z1];exact heap_alloc_new _ _,World.ownsRow_nil _ _ _ _,World.ownsRow_nil _ _ _ _,(by intro k hk;cases hk),(by intro k hk;cases hk),(by intro k hk;cases hk),(fun s hs=>by cases hs),k0.trans k1⟩
 obtain⟨M,HM0⟩:∃M,Hid (A.map (·.L)=M):=⟨_,rfl⟩
 rw[HM0.out];have HMA:Hid (∀k,k<A.length->M.getD k []=(eU A k).L):=fun k hk=>by rw[<-HM0.out];exact tJ A k hk
 have HV0:Hid (([]:List ByteArray)=fG T S hs 0):=rfl;have HB0:Hid (([]:List Sl).map (·.L)=fj S hs M 0):=rfl;clear hD ok hH hlt hA hAS hF hN;go_enter Tryz.func177,Tryz.ntmps177;go_wp2
 go_loopg [8] hs.length (fun g i wr=>∃(k:Nat) (V:List ByteArray) (hv:Hd) (B:List Sl) (hb:Hd),k<=hs.length/\g=hs.length-k/\i=.int .i64 k/\(V.length<=k/\B.length<=k)/\Hid (V=fG T S hs k)/\Hid (B.map (·.L)=fj S hs M k)/\Hid (Fo w wr V hv B hb))
 case atStart=>exact⟨0,[],⟨none,0⟩,[],⟨none,0⟩,by omega,rfl,rfl,⟨Nat.le_refl _,Nat.le_refl _⟩,HV0,HB0,S0⟩
 case round =>
  obtain⟨k,V,hv,B,hb,hk,hg,rfl,⟨hVl,hBl⟩,HV,HB,HW⟩:=hrel;have HKr:=(show Hid _ from HW.out.kept)
  by_cases hlt:k<hs.length
  ·have hki:(k:Int)<(hs.length:Int):=by omega
   have hjn:=HLT.out hs[k] (List.getElem_mem hlt);have hjs:hs[k]<S.length:=by omega
   obtain⟨gH,rfl,hgH,cHk⟩:=(pE.still HH.out HKr.out) k hs[k] (List.getElem?_eq_getElem hlt);have HDr:=(show Hid _ from fa.still HD.out HKr.out);obtain⟨t0,s0,hbz⟩:=HDr.out.cells;obtain⟨gs,rfl,hgs,-,-,-,q3⟩:=HDr.out.s.2 hs[k] S[hs[k]] (List.getElem?_eq_getElem hjs);have hgd:hs.getD k 0=hs[k]:=by rw[List.getD_eq_getElem?_getD,List.getElem?_eq_getElem hlt];rfl
   have HRP:Hid (CD S hs k=(S[hs[k]].k.toList == [36,102])):=by show _=_;unfold CD;rw[hgd,bC S hs[k] hjs]
   have HIN:=(show Hid _ from EQ S hs k);have hji:((hs[k]:Nat):Int)<(S.length:Int):=by omega
   have hj0:(0:Int)<=((hs[k]:Nat):Int):=by omega
   have HBD:Hid ((S[hs[k]].k.toList == [36,102])=true->∀wx,ab [] w wx->Calls Tryz.prog 72 #[.pointer (some ⟨b,0,none⟩),.int .i64 ((hs[k]:Nat):Int)] wx fun e w'=>∃h',e=.returned (.slice h'.ao (bV T S[hs[k]].h).length h'.cap)/\tP wx w' h' (bV T S[hs[k]].h)):=fun h wx kx=>ki b hs[k] T aoT cT S _ cS wx (fa.still HD.out kx) hjs (by omega) (by have:=HOK.out.e hs[k] hjn;rw[<-bC S hs[k] hjs]at this;exact this (fY h (by decide)))
   have HBY:Hid (bV T S[hs[k]].h=cm T S (hs.getD k 0)):=by show _=_;unfold cm;rw[hgd,bC S hs[k] hjs]
   rw[HBY.out]at HBD;have HF1:=(show Hid _ from HF.out k hlt);rw[HRP.out]at HIN HF1;clear HBY HRP hgd;generalize S[hs[k]].k=sk at *;generalize hs[k]=j at *
   cases h1:(sk.toList == [36,102])
   ·rw[h1,if_neg (by simp),List.append_nil]at HIN
    have HV2:Hid (V=fG T S hs (k+1)):=by show _=_;unfold fG;rw[HIN.out];exact HV.out
    have HB2:Hid (B.map (·.L)=fj S hs M (k+1)):=by show _=_;unfold fj;rw[HIN.out];exact HB.out
    go_upto_region 5 with fail
    go_quiet (fail)
    have HW2:=(show Hid _ from HW.out.still ((ab.refl [] wr).drewN nq));go_wp2
    go_roundg (hs.length-(k+1))
    case measure=>omega
    case rel=>exact⟨k+1,V,hv,B,hb,by omega,rfl,by go_num,⟨by omega,by omega⟩,HV2,HB2,HW2⟩
   ·rw[h1,if_pos rfl]at HIN
    have hbl:=HF1.out h1;have HBC:=(show Hid _ from HBD.out h1);obtain⟨X,HX⟩:∃X,Hid (cm T S (hs.getD k 0)=X):=⟨_,rfl⟩
    rw[HX.out]at hbl HBC;have HV2:Hid (V++[X.getD 1 ⟨#[]⟩]=fG T S hs (k+1)):=by show _=_;unfold fG;rw[HIN.out,List.map_append,HV.out];simp only[List.map_cons,List.map_nil];rw[HX.out];rfl
    have hkA:k<A.length:=by omega
    have HB2:Hid (B.map (·.L)++[(eU A k).L.drop 1]=fj S hs M (k+1)):=by show _=_;unfold fj;rw[HIN.out,List.map_append,HB.out];simp only[List.map_cons,List.map_nil];rw[HMA.out k hkA];rfl
    go_upto_region 5 with fail
    go_quiet (fail)
    go_upto_region 6 with fail
    obtain⟨W2,HW2e⟩:∃W2,Hid (wr.drewN nq=W2):=⟨_,rfl⟩
    rw[HW2e.out];have k2:ab [] wr W2:=by rw[<-HW2e.out];exact(ab.refl [] wr).drewN nq
    have HW2:=(show Hid _ from HW.out.still k2);have HBC2:=(show Hid _ from HBC.out W2 (HKr.out.trans k2));have cHk2:W2.cell? ⟨gH,k,none⟩=some (.int .i64 (j:Int)):=by rw[World.cell?_of_block (k2.block gH hgH (by simp))];exact cHk
    have hgH2:=Nat.lt_of_lt_of_le hgH k2.size;clear t0 s0 hbz q3 cHk hgs k2 HBC
    go_upto_region 7 with (go_at_call 72;refine Calls.mono HBC2.out ?_;rintro e w3 ⟨h3,rfl,x3⟩)
    have HW3:=(show Hid _ from HW2.out.still x3.kept);obtain⟨gX,eX,hgX,cX⟩:=x3.own.srcX 1 _ (kO X 1 hbl);generalize X.getD 1 ⟨#[]⟩=x at *;rw[eX];have hb1:(1:Int)<(X.length:Int):=by omega
    have p0:w3.cell? ⟨w.heap.size+1,0,none⟩=some (.slice hv.ao V.length hv.cap):=by rw[aa HW3.out.c];rfl
    have p1:=ak HW3.out.c 0;have p2:=ae HW3.out.c;have hOw:=HW3.out.v;have hVb:Hid ((aD V).n<=900000000):=by show V.length<=_;omega
    have HVn:Hid ((aD V).n=V.length):=rfl;clear cHk2 hgH2 x3
    go_region_law (refine bD w3 rfl (.tmp 36) (.tmp 40) 61 rfl iS (.string ⟨#[]⟩) 16 hv (aD V) [.string x] Tryz.underlying61 hiS hzS0 hzS1 hzS2 rfl Nat.one_pos (by rw[HVn.out];simp[Act.eval]) hOw hVb.out (by omega) (by simp[Act.eval]) rfl (by simp[Value.oneCell']) ?_;intro ao5 cap5 w5 hw5 hg5;have c5:=hg5.kept.get HW3.out.c (fun hq=>by have:=HW3.out.fv _ (aK hq);omega);have f5:=ak c5 0;have d5:w5.cell? ⟨w.heap.size+1,0,none⟩=some (.slice hv.ao V.length hv.cap):=(by rw[aa c5];rfl);have z5:=ae c5)
    all_goals
     rw[dS]at hw5;have HA2:=(show Hid _ from HW3.out.addV (m:=(aD V).n+1) hg5 hw5 (by simp[aD]));obtain⟨X5,HX5⟩:∃X5,Hid (w5.setCell ⟨w.heap.size+1,0,none⟩ (.slice ao5 ((aD V).n+1) cap5)=X5):=⟨_,rfl⟩
     rw[HX5.out]at HA2 ⊢;clear hw5 hg5 c5 f5 d5 z5 p0 p1 p2 HX5 hgX cX;have HK5:=(show Hid _ from HA2.out.kept);obtain⟨gA,rfl,hgA,cAk⟩:=cK.sl (cK.still HA.out HK5.out) k hkA;have HSS:=(show Hid _ from HAS.out (eU A k) (iJ A k hkA));have hsl:=HN.out (eU A k) (iJ A k hkA);have hkAi:(k:Int)<(A.length:Int):=by omega
     generalize eU A k=s at *;obtain⟨sao,scap,sL⟩:=s;obtain⟨g0,o0,es,-,-⟩:=HSS.out.src 0 _ (kO sL 0 hsl);replace es:sao=some ⟨g0,o0,none⟩:=es;subst es;have hsc:=HSS.out.le;simp only at cAk hsl hsc HB2;have p0:X5.cell? ⟨w.heap.size+1,1,none⟩=some (.slice hb.ao B.length hb.cap):=by rw[aa HA2.out.c];rfl
     have p1:=ak HA2.out.c 1;have p2:=ae HA2.out.c;have hOb:=HA2.out.b;have hBb:Hid ((j4 B).n<=900000000):=by show B.length<=_;omega
     have HBn:Hid ((j4 B).n=B.length):=rfl;have hl1:(1:Int)<=(sL.length:Int):=by omega
     have hl2:1<=sL.length:=hsl;have hc1:1<=scap:=by omega
     have hc2:(sL.length:Int)<=(scap:Int):=by omega
     by_cases hcap:scap=1
     ·subst hcap
      have HT:Hid (nr w ⟨some ⟨g0,o0,none⟩,0,sL.drop 1⟩):=by show nr w _;rw[List.drop_eq_nil_of_le (by omega)];exact nr.none0 (fun e=>by cases e)
      have HLd:Hid (([.slice (some ⟨g0,o0,none⟩) 0 0]:List Value)=Bx ⟨some ⟨g0,o0,none⟩,0,sL.drop 1⟩):=by show _=_;unfold Bx;rw[List.drop_eq_nil_of_le (by omega)];rfl
      go_upto_region 8 with fail
      go_region_law (refine bD X5 rfl (.tmp 44) (.tmp 50) 218 rfl iL (.slice none 0 0) 24 hb (j4 B) [.slice (some ⟨g0,o0,none⟩) 0 0] Tryz.underlying218 hiL hzL0 hzL1 hzL2 rfl Nat.one_pos (by rw[HBn.out];simp[Act.eval]) hOb hBb.out (by omega) (by simp[Act.eval]) rfl (by simp[Value.oneCell']) ?_;intro ao6 cap6 w6 hw6 hg6;have c6:=hg6.kept.get HA2.out.c (fun hq=>by have:=HA2.out.fb _ (aK hq);omega);have f6:=ak c6 1;have d6:w6.cell? ⟨w.heap.size+1,1,none⟩=some (.slice hb.ao B.length hb.cap):=(by rw[aa c6];rfl);have z6:=ae c6)
      all_goals
       rw[HLd.out,oi]at hw6
       have HA3:=(show Hid _ from HA2.out.addB (m:=(j4 B).n+1) hg6 hw6 (fun s hs=>by
        rcases List.mem_append.1 hs with h | h
        ·exact HA2.out.s s h
        ·rw[List.mem_singleton.1 h];exact HT.out) (by simp[j4,kg]))
       have HB3:Hid ((B++[(⟨some ⟨g0,o0,none⟩,0,sL.drop 1⟩:Sl)]).map (·.L)=fj S hs M (k+1)):=by show _=_;rw[List.map_append];exact HB2.out
       clear hw6 hg6 c6;go_wp2
       go_roundg (hs.length-(k+1))
       case measure=>omega
       case rel=>exact⟨k+1,V++[x],⟨ao5,cap5⟩,B++[⟨some ⟨g0,o0,none⟩,0,sL.drop 1⟩],⟨ao6,cap6⟩,by omega,rfl,by go_num,⟨by simp;omega,by simp;omega⟩,HV2,HB3,HA3⟩
     ·have HT:=(show Hid _ from nr.tail HSS.out)
      have HLd:Hid (sL.length-1=(sL.drop 1).length):=by show _=_;simp
      go_upto_region 8 with fail
      go_region_law (refine bD X5 rfl (.tmp 44) (.tmp 50) 218 rfl iL (.slice none 0 0) 24 hb (j4 B) [.slice (some ⟨g0,o0+1,none⟩) (sL.length-1) (scap-1)] Tryz.underlying218 hiL hzL0 hzL1 hzL2 rfl Nat.one_pos (by rw[HBn.out];simp[Act.eval]) hOb hBb.out (by omega) (by simp[Act.eval]) rfl (by simp[Value.oneCell']) ?_;intro ao6 cap6 w6 hw6 hg6;have c6:=hg6.kept.get HA2.out.c (fun hq=>by have:=HA2.out.fb _ (aK hq);omega);have f6:=ak c6 1;have d6:w6.cell? ⟨w.heap.size+1,1,none⟩=some (.slice hb.ao B.length hb.cap):=(by rw[aa c6];rfl);have z6:=ae c6)
      all_goals
       rw[HLd.out,show([.slice (some ⟨g0,o0+1,none⟩) (sL.drop 1).length (scap-1)]:List Value)=Bx ⟨some ⟨g0,o0+1,none⟩,scap-1,sL.drop 1⟩ from rfl,oi]at hw6
       have HA3:=(show Hid _ from HA2.out.addB (m:=(j4 B).n+1) hg6 hw6 (fun s hs=>by
        rcases List.mem_append.1 hs with h | h
        ·exact HA2.out.s s h
        ·rw[List.mem_singleton.1 h];exact HT.out) (by simp[j4,kg]))
       have HB3:Hid ((B++[(⟨some ⟨g0,o0+1,none⟩,scap-1,sL.drop 1⟩:Sl)]).map (·.L)=fj S hs M (k+1)):=by show _=_;rw[List.map_append];exact HB2.out
       clear hw6 hg6 c6;go_wp2
       go_roundg (hs.length-(k+1))
       case measure=>omega
       case rel=>exact⟨k+1,V++[x],⟨ao5,cap5⟩,B++[⟨some ⟨g0,o0+1,none⟩,scap-1,sL.drop 1⟩],⟨ao6,cap6⟩,by omega,rfl,by go_num,⟨by simp;omega,by simp;omega⟩,HV2,HB3,HA3⟩
  ·have e:k=hs.length:=by omega
   subst e;have hki:¬(hs.length:Int)<(hs.length:Int):=by omega
   have r0:wr.cell? ⟨w.heap.size,0,none⟩=some (.slice none 0 0):=by rw[aa HW.out.r];rfl
   have r1:wr.cell? ⟨w.heap.size,1,none⟩=some (.slice none 0 0):=by rw[aa HW.out.r];rfl
   have r2:=ak HW.out.r 0;have r3:=ak HW.out.r 1;have c0:wr.cell? ⟨w.heap.size+1,0,none⟩=some (.slice hv.ao V.length hv.cap):=by rw[aa HW.out.c];rfl
   have c1:wr.cell? ⟨w.heap.size+1,1,none⟩=some (.slice hb.ao B.length hb.cap):=by rw[aa HW.out.c];rfl
   have hz1:=ae HW.out.c;have hz0:=ae HW.out.r;have HN1:Hid (∀q,hv.blk=some q->q≠w.heap.size):=fun q hq=>by have:=HW.out.fv q hq;omega
   have HN2:Hid (∀q,hb.blk=some q->q≠w.heap.size):=fun q hq=>by have:=HW.out.fb q hq;omega
   have HVV:Hid (fG T S hs hs.length=V):=HV.out.symm;go_wp2;obtain⟨x0,x1⟩:=DJ HW.out.r (.slice hv.ao V.length hv.cap) (.slice hb.ao B.length hb.cap);have kf:ab [] w ((wr.setCell ⟨w.heap.size,0,none⟩ (.slice hv.ao V.length hv.cap)).setCell ⟨w.heap.size,1,none⟩ (.slice hb.ao B.length hb.cap)):=(HKr.out.setCell (Or.inr (by simp)) _).setCell (Or.inr (by simp)) _;exact bodyPost_ret (v:=.agg #[.slice hv.ao V.length hv.cap,.slice hb.ao B.length hb.cap]) (by simp[results,Tryz.results177,go_sem,x0,x1]) rfl ⟨hv,hb,B,by rw[HVV.out],HB.out,HW.out.s,by rw[HVV.out];exact⟨(HW.out.v.aside HN1.out _ _).aside HN1.out _ _,fun q hq=>(by have:=HW.out.fv q hq;omega),kf⟩,⟨(HW.out.b.aside HN2.out _ _).aside HN2.out _ _,fun q hq=>(by have:=HW.out.fb q hq;omega),kf⟩⟩
def iB(T:List Tk)(S:List Sm)(hs:List Nat)(k:Nat):List ByteArray:=((hs.take k).filter (fun j=>((au S j).k.toList == [36,102]))).map (fun j=>tS T ((au S j).h+1))
def Jv(p:ByteArray×ByteArray):List Value:=[.string p.1,.string p.2]
theorem F0(p:ByteArray×ByteArray):(Jv p).length=2:=rfl
def kE(L:Fs):dK:=kg 114 2 Jv L
theorem yA(L:Fs)(x:ByteArray×ByteArray):(⟨(kE L).e,(kE L).size,(kE L).n+1,(kE L).xs++Jv x⟩:dK)=kE (L++[x]):=jM _ _ _ _ _
def jL(T:List Tk)(S:List Sm)(a:Nat)(V:List ByteArray)(i m:Nat):Fs:=((List.range m).filter (fun j=>decide (i<j)&&ir T S (V.getD i ⟨#[]⟩) (V.getD j ⟨#[]⟩) a)).map (fun j=>(V.getD i ⟨#[]⟩,V.getD j ⟨#[]⟩))
def kH(T:List Tk)(S:List Sm)(a:Nat)(V:List ByteArray)(k:Nat):Fs:=(List.range k).flatMap (fun i=>jL T S a V i V.length)
def lO(T:List Tk)(S:List Sm)(a:Nat):Fs:=kH T S a (iB T S (cD T S a) (cD T S a).length) (iB T S (cD T S a) (cD T S a).length).length
theorem z8(T:List Tk)(S:List Sm)(a:Nat)(V:List ByteArray)(i m:Nat)(h:i<m):jL T S a V i (m+1)=jL T S a V i m++(if ir T S (V.getD i ⟨#[]⟩) (V.getD m ⟨#[]⟩) a=true then [(V.getD i ⟨#[]⟩,V.getD m ⟨#[]⟩)] else []):=by
 unfold jL;rw[fK,List.map_append,decide_eq_true h,Bool.true_and]
 split <;> rfl
theorem yB(T:List Tk)(S:List Sm)(a:Nat)(V:List ByteArray)(i:Nat):jL T S a V i (i+1)=[]:=by
 unfold jL;rw[List.filter_eq_nil_iff.2 (fun j hj=>by have:=List.mem_range.1 hj;simp;omega)];rfl
theorem tV(T:List Tk)(S:List Sm)(a:Nat)(V:List ByteArray)(k:Nat):kH T S a V (k+1)=kH T S a V k++jL T S a V k V.length:=by
 unfold kH;rw[List.range_succ,List.flatMap_append];simp
theorem Ae(T:List Tk)(S:List Sm)(a:Nat)(V:List ByteArray)(i m:Nat):(jL T S a V i m).length<=m:=by
 unfold jL;rw[List.length_map];have:=List.length_filter_le (fun j=>decide (i<j)&&ir T S (V.getD i ⟨#[]⟩) (V.getD j ⟨#[]⟩) a) (List.range m);rw[List.length_range]at this;exact this
theorem AD(T:List Tk)(S:List Sm)(hs:List Nat)(k:Nat)(h:k<hs.length):iB T S hs (k+1)=iB T S hs k++(if((au S hs[k]).k.toList == [36,102])=true then [tS T ((au S hs[k]).h+1)] else []):=by
 unfold iB;rw[List.take_succ_eq_append_getElem h,List.filter_append,List.map_append]
 congr 1
 cases hv:((au S hs[k]).k.toList == [36,102])
 ·rw[List.filter_cons_of_neg (by rw[hv];simp)];rfl
 ·rw[List.filter_cons_of_pos (p:=fun j=>((au S j).k.toList == [36,102])) hv];rfl
theorem JI:(Tryz.prog.info? 114).map (fun i=>(i.zero,i.size,i.bytes))=some (some (.agg #[.string ⟨#[]⟩,.string ⟨#[]⟩]),2,32):=by kernel_rfl
set_option maxRecDepth 100000 in
theorem Bu(b n:Nat)(T:List Tk)(aoT:Option Addr)(cT:Nat)(S:List Sm)(aoS:Option Addr)(cS:Nat)(w:World)(hD:fa w b T aoT cT S aoS cS)(ok:mG T S n)(hn:n<S.length)(hE:eF T (au S n).h) :
  Calls Tryz.prog 64 #[.pointer (some ⟨b,0,none⟩),.int .i64 n] w fun e w'=>∃h',e=.returned (.slice h'.ao (lO T S n).length h'.cap)/\iz w w' h' (kE (lO T S n)):=by
 have HD:=(show Hid _ from hD);have HOK:=(show Hid _ from ok);have hS2:=ok.sm;have hT2:=ok.tm;have HHY:=(show Hid _ from og b n T aoT cT S aoS cS w hD ok hn hE);have hyl:=kU T S n;have HYL:=(show Hid _ from pZ T S n);have HPR:Hid (lO T S n=kH T S n (iB T S (cD T S n) (cD T S n).length) (iB T S (cD T S n) (cD T S n).length).length):=rfl;obtain⟨iS,hiS,hzS0,hzS1,hzS2⟩:=info_parts jI;obtain⟨iP,hiP,hzP0,hzP1,hzP2⟩:=info_parts JI;clear hD ok;generalize cD T S n=HY at *;go_enter Tryz.func64,Tryz.ntmps64
 go_upto_region 3 with (go_at_call 62;refine Calls.mono HHY.out ?_;rintro e w1 ⟨h1,rfl,x1⟩)
 have HK1:=(show Hid _ from x1.kept);have HSN:=(show Hid _ from x1.own.srcN);have HN0:Hid (iz w1 w1 ⟨none,0⟩ (aD [])):=⟨World.ownsRow_nil _ _ _ _,(by intro k hk;cases hk),ab.refl _ _⟩;clear x1 HHY;obtain⟨a1,c1⟩:=h1;have HV0:Hid (([]:List ByteArray)=iB T S HY 0):=by show _=_;simp[iB]
 go_wp2
 go_loopg [5,7] HY.length (fun g o i wr=>∃(k:Nat) (h':Hd) (V:List ByteArray),k<=HY.length/\g=HY.length-k/\o=.slice h'.ao V.length h'.cap/\i=.int .i64 k/\V.length<=k/\Hid (V=iB T S HY k)/\Hid (iz w1 wr h' (aD V)))
 case atStart=>exact⟨0,⟨none,0⟩,[],by omega,rfl,rfl,rfl,by simp,HV0,HN0⟩
 case round =>
  obtain⟨k,h',V,hk,hg,rfl,rfl,hVl,HV,HW⟩:=hrel;have HKr:=(show Hid _ from HK1.out.trans HW.out.kept)
  by_cases hlt:k<HY.length
  ·have hki:(k:Int)<(HY.length:Int):=by omega
   have hjn:=HYL.out HY[k] (List.getElem_mem hlt);have hjs:HY[k]<S.length:=by omega
   obtain⟨gH,eH,hgH,cH⟩:=HSN.out k HY[k] (List.getElem?_eq_getElem hlt);replace eH:a1=some ⟨gH,0,none⟩:=eH;subst eH;have HD1:=(show Hid _ from fa.still HD.out HK1.out);obtain⟨t0,s0,hb⟩:=HD1.out.cells;obtain⟨gs,rfl,hgs,-,-,q2,q3⟩:=HD1.out.s.2 HY[k] S[HY[k]] (List.getElem?_eq_getElem hjs);have HNX:=(show Hid _ from AD T S HY k hlt);rw[<-HV.out,<-bC S HY[k] hjs]at HNX;have HFl:Hid ((S[HY[k]].k.toList == [36,102])=true->S[HY[k]].h+1<T.length):=fun h=>by have:=HOK.out.f HY[k] hjn;rw[<-bC S HY[k] hjs]at this;exact this h
   have hji:((HY[k]:Nat):Int)<(S.length:Int):=by omega
   have hj0:(0:Int)<=((HY[k]:Nat):Int):=by omega
   generalize S[HY[k]].k=sk at *;generalize S[HY[k]].h=sh at *;generalize HY[k]=j at *
   have HCL:Hid (∀w':World,w1.heap.size<=w'.heap.size->(∀q,q<w1.heap.size->w'.heap[q]?=w1.heap[q]?)->(w'.cell? ⟨b,0,none⟩=some (.slice aoT T.length cT)/\w'.cell? ⟨b,1,none⟩=some (.slice (some ⟨gs,0,none⟩) S.length cS)/\w'.cell? ⟨gH,k,none⟩=some (.int .i64 (j:Int))/\w'.cell? ⟨gs,j*4+2,none⟩=some (.int .i64 (sh:Int))/\w'.cell? ⟨gs,j*4+3,none⟩=some (.string sk))/\b<w'.heap.size/\gs<w'.heap.size/\gH<w'.heap.size):=fun w' hz hq =>
    ⟨⟨by rw[World.cell?_of_block (hq b hb)];exact t0,by rw[World.cell?_of_block (hq b hb)];exact s0,by rw[World.cell?_of_block (hq gH hgH)];exact cH,by rw[World.cell?_of_block (hq gs hgs)];exact q2,by rw[World.cell?_of_block (hq gs hgs)];exact q3⟩,by omega,by omega,by omega⟩
   clear t0 s0 q2 q3 cH;have HQr:Hid (∀q,q<w1.heap.size->wr.heap[q]?=w1.heap[q]?):=fun q hq=>HW.out.kept.block q hq (by simp)
   obtain⟨⟨t0,s0,cH,q2,q3⟩,hbz,hgsz,hgHz⟩:=HCL.out wr HW.out.kept.size HQr.out
   cases h1:(sk.toList == [36,102])
   ·have HM:Hid (V=iB T S HY (k+1)):=by have:=HNX.out;rw[h1,if_neg (by simp),List.append_nil]at this;exact this.symm
    go_upto_region 6 with fail
    go_quiet (fail)
    have HWd:=(show Hid _ from HW.out.still ((ab.refl [] wr).drewN nq));go_wp2
    go_roundg (HY.length-(k+1))
    case measure=>omega
    case rel=>exact⟨k+1,h',V,by omega,rfl,rfl,by go_num,by omega,HM,HWd⟩
   ·have HM:Hid (V++[tS T (sh+1)]=iB T S HY (k+1)):=by have:=HNX.out;rw[h1,if_pos rfl]at this;exact this.symm
    have hfl:=HFl.out h1;obtain⟨gT,rfl,hgT,u0,-⟩:=HD1.out.t.2 (sh+1) _ (fZ T (sh+1) hfl);replace u0:w1.cell? ⟨gT,(sh+1)*5,none⟩=some (.string (tS T (sh+1))):=u0;generalize tS T (sh+1)=v at *;have HCT:Hid (∀w':World,(∀q,q<w1.heap.size->w'.heap[q]?=w1.heap[q]?)->w'.cell? ⟨gT,(sh+1)*5,none⟩=some (.string v)):=fun w' hq=>by rw[World.cell?_of_block (hq gT hgT)];exact u0
    have hfi:(sh:Int)+1<(T.length:Int):=by omega
    have hsw:IntKind.i64.wrap ((sh:Int)+1)=(sh:Int)+1:=by rw[IntKind.wrap_i64];omega
    have hsn:((sh:Int)+1).toNat=sh+1:=by omega
    have hs0:(0:Int)<=(sh:Int)+1:=by omega
    go_upto_region 6 with fail
    go_quiet (fail)
    go_upto_region 7 with fail
    obtain⟨W2,HW2⟩:∃W2,Hid (wr.drewN nq=W2):=⟨_,rfl⟩
    rw[HW2.out];have k2:ab [] wr W2:=by rw[<-HW2.out];exact(ab.refl [] wr).drewN nq
    have HWd:=(show Hid _ from HW.out.still k2);have HQ2:Hid (∀q,q<w1.heap.size->W2.heap[q]?=w1.heap[q]?):=fun q hq=>HWd.out.kept.block q hq (by simp)
    clear t0 s0 cH q2 q3 hbz hgsz hgHz u0;obtain⟨⟨t0,s0,cH,q2,-⟩,hbz,hgsz,hgHz⟩:=HCL.out W2 HWd.out.kept.size HQ2.out;have u0:=HCT.out W2 HQ2.out;have hgTz:gT<W2.heap.size:=Nat.lt_of_lt_of_le hgT HWd.out.kept.size;have hOw:=HWd.out.own;have hVb:Hid ((aD V).n<=900000000):=by show V.length<=_;omega
    have HS:Hid (∀(w5:World) (h5:Hd),bh W2 w5 h' h5->(w5.cell? ⟨b,0,none⟩=some (.slice (some ⟨gT,0,none⟩) T.length cT)/\w5.cell? ⟨b,1,none⟩=some (.slice (some ⟨gs,0,none⟩) S.length cS)/\w5.cell? ⟨gH,k,none⟩=some (.int .i64 (j:Int))/\w5.cell? ⟨gs,j*4+2,none⟩=some (.int .i64 (sh:Int))/\w5.cell? ⟨gT,(sh+1)*5,none⟩=some (.string v))):=fun w5 h5 gr=>by
     have hq5:∀q,q<w1.heap.size->w5.heap[q]?=w1.heap[q]?:=fun q hq=>by
      rw[gr.kept.block q (Nat.lt_of_lt_of_le hq HWd.out.kept.size) (fun hm=>by have:=HW.out.far q (aK hm);omega)];exact HQ2.out q hq
     obtain⟨⟨y0,y1,y2,y3,-⟩,-⟩:=HCL.out w5 (Nat.le_trans HWd.out.kept.size gr.kept.size) hq5;exact⟨y0,y1,y2,y3,HCT.out w5 hq5⟩
    clear k2
    go_region_held3 (fun w'=>w'.cell? ⟨b,0,none⟩=some (.slice (some ⟨gT,0,none⟩) T.length cT)/\w'.cell? ⟨b,1,none⟩=some (.slice (some ⟨gs,0,none⟩) S.length cS)/\w'.cell? ⟨gH,k,none⟩=some (.int .i64 (j:Int))/\w'.cell? ⟨gs,j*4+2,none⟩=some (.int .i64 (sh:Int))/\w'.cell? ⟨gT,(sh+1)*5,none⟩=some (.string v)) (go_keep) ((refine bD W2 (by rfl) (.tmp 33) (.tmp 53) 61 (by rfl) iS (.string ⟨#[]⟩) 16 h' (aD V) [.string v] Tryz.underlying61 hiS hzS0 hzS1 hzS2 rfl Nat.one_pos (by simp[Act.eval] <;> rfl) hOw hVb.out (by omega) (by simp[Act.eval]) rfl (by simp[Value.oneCell']) ?_;intro ao5 cap5 w5 hw5 hg5;obtain⟨y0,y1,y2,y3,y4⟩:=HS.out w5 _ hg5))
    rw[dS]at hw5;have HM2:=(show Hid _ from HWd.out.grew hg5 hw5);clear hw5 hg5;go_wp2
    go_roundg (HY.length-(k+1))
    case measure=>omega
    case rel=>exact⟨k+1,⟨ao5,cap5⟩,V++[v],by omega,rfl,by simp[aD],by go_num,by simp;omega,HM,HM2⟩
  ·have e:k=HY.length:=by omega
   subst e;have HPV:Hid (lO T S n=kH T S n V V.length):=by show _=_;rw[HPR.out,HV.out]
   have HSX:=(show Hid _ from HW.out.own.srcX);have HN1:Hid (iz wr wr ⟨none,0⟩ (kE [])):=⟨World.ownsRow_nil _ _ _ _,(by intro k hk;cases hk),ab.refl _ _⟩;have HP0:Hid (([]:Fs)=kH T S n V 0):=by show _=_;simp[kH]
   obtain⟨va,vc⟩:=h';obtain⟨w2,Hw2⟩:∃w2,Hid (wr=w2):=⟨_,rfl⟩
   rw[Hw2.out];rw[Hw2.out]at HSX HN1 HKr;clear HV HW Hw2;go_wp2
   go_loopg [8,9] V.length (fun g o i w3=>∃(m:Nat) (h2:Hd) (L:Fs),m<=V.length/\g=V.length-m/\o=.slice h2.ao L.length h2.cap/\i=.int .i64 m/\L.length<=10000*m/\Hid (L=kH T S n V m)/\Hid (iz w2 w3 h2 (kE L)))
   case atStart=>exact⟨0,⟨none,0⟩,[],by omega,rfl,rfl,rfl,by simp,HP0,HN1⟩
   case round =>
    obtain⟨m,h2,L,hm,hg2,rfl,rfl,hL,HL,HW3⟩:=hrel
    by_cases hlt2:m<V.length
    ·have hmi:(m:Int)<(V.length:Int):=by omega
     have HP1:Hid (L=kH T S n V m++jL T S n V m (m+1)):=by show _=_;rw[yB,List.append_nil];exact HL.out
     obtain⟨gV,eV,hgV,cV0⟩:=HSX.out m _ (kO V m hlt2);replace eV:va=some ⟨gV,0,none⟩:=eV;subst eV;go_wp2
     go_loopg [8,10] (V.length-(m+1)) (fun g o i w3=>∃(q:Nat) (h3:Hd) (L3:Fs),(m<q/\q<=V.length)/\g=V.length-q/\o=.slice h3.ao L3.length h3.cap/\i=.int .i64 q/\L3.length<=10000*m+q/\Hid (L3=kH T S n V m++jL T S n V m q)/\Hid (iz w2 w3 h3 (kE L3)))
     case atStart=>exact⟨m+1,h2,L,⟨by omega,by omega⟩,rfl,rfl,by go_num,by omega,HP1,HW3⟩
     case round =>
      obtain⟨q,h3,L3,⟨hq1,hq2⟩,hg3,rfl,rfl,hL3,HL3,HW4⟩:=hrel
      by_cases hlt3:q<V.length
      ·have hqi:(q:Int)<(V.length:Int):=by omega
       obtain⟨gV2,eV2,-,cV1⟩:=HSX.out q _ (kO V q hlt3)
       cases eV2
       have HNX:=(show Hid _ from z8 T S n V m q hq1);have HAP:Hid (∀wx,ab [] w2 wx->Calls Tryz.prog 94 #[.pointer (some ⟨b,0,none⟩),.string (V.getD m ⟨#[]⟩),.string (V.getD q ⟨#[]⟩),.int .i64 n] wx fun e w'=>e=.returned (.bool (ir T S (V.getD m ⟨#[]⟩) (V.getD q ⟨#[]⟩) n))/\ab [] wx w'):=fun wx kx=>tU b n _ _ T aoT cT S aoS cS wx (fa.still HD.out (HKr.out.trans kx)) HOK.out
       have HCV:Hid (∀w':World,w2.heap.size<=w'.heap.size->(∀q,q<w2.heap.size->w'.heap[q]?=w2.heap[q]?)->w'.cell? ⟨gV,m,none⟩=some (.string (V.getD m ⟨#[]⟩))/\w'.cell? ⟨gV,q,none⟩=some (.string (V.getD q ⟨#[]⟩))/\gV<w'.heap.size):=fun w' hz hq=>⟨by rw[World.cell?_of_block (hq gV hgV)];exact cV0,by rw[World.cell?_of_block (hq gV hgV)];exact cV1,by omega⟩
       generalize V.getD m ⟨#[]⟩=x at *;generalize V.getD q ⟨#[]⟩=y at *;obtain⟨ap,Hap⟩:∃ap,Hid (ir T S x y n=ap):=⟨_,rfl⟩
       rw[Hap.out]at HAP HNX;clear cV1;obtain⟨v0,v1,hvz⟩:=HCV.out wr HW4.out.kept.size (fun q hq=>HW4.out.kept.block q hq (by simp))
       go_upto_region 15 with fail
       go_region_with (go_at_call 94;refine(HAP.out _ (by exact HW4.out.kept.drew)).mono ?_;rintro e w5 ⟨rfl,k5⟩)
       all_goals
        have k6:ab [] wr w5:=((ab.refl [] wr).drew).trans k5;have HW5:=(show Hid _ from HW4.out.still k6);clear k5 k6 v0 v1 hvz
        cases ap
        ·have HM:Hid (L3=kH T S n V m++jL T S n V m (q+1)):=by show _=_;rw[HNX.out,if_neg (by simp),List.append_nil];exact HL3.out
         go_wp2
         go_roundg (V.length-(q+1))
         case measure=>omega
         case rel=>exact⟨q+1,h3,L3,⟨by omega,by omega⟩,rfl,rfl,by go_num,by omega,HM,HW5⟩
        ·have HM:Hid (L3++[(x,y)]=kH T S n V m++jL T S n V m (q+1)):=by show _=_;rw[HNX.out,if_pos rfl,HL3.out,List.append_assoc]
         go_upto_region 17 with fail
         obtain⟨v0,v1,hvz⟩:=HCV.out w5 HW5.out.kept.size (fun q hq=>HW5.out.kept.block q hq (by simp));have hOw:=HW5.out.own;have hLb:Hid ((kE L3).n<=900000000):=by show L3.length<=_;omega
         have s3:Hid (∀u∈([.string x,.string y]:List Value),u.oneCell'=true):=by intro u hu;simp only[List.mem_cons,List.not_mem_nil,or_false]at hu;rcases hu with rfl | rfl <;> rfl
         have HS:Hid (∀(w6:World) (h6:Hd),bh w5 w6 h3 h6->w6.cell? ⟨gV,m,none⟩=some (.string x)/\w6.cell? ⟨gV,q,none⟩=some (.string y)):=fun w6 h6 gr=>by
          obtain⟨y0,y1,-⟩:=HCV.out w6 (Nat.le_trans HW5.out.kept.size gr.kept.size) (fun p hp=>by
           rw[gr.kept.block p (Nat.lt_of_lt_of_le hp HW5.out.kept.size) (fun hm=>by have:=HW5.out.far p (aK hm);omega)];exact HW5.out.kept.block p hp (by simp))
          exact⟨y0,y1⟩
         go_region_held3 (fun w'=>w'.cell? ⟨gV,m,none⟩=some (.string x)/\w'.cell? ⟨gV,q,none⟩=some (.string y)) (go_keep) ((refine bD w5 (by rfl) (.tmp 81) (.tmp 91) 111 (by rfl) iP (.agg #[.string ⟨#[]⟩,.string ⟨#[]⟩]) 32 h3 (kE L3) [.string x,.string y] Tryz.underlying111 hiP hzP0 hzP1 hzP2 rfl Nat.two_pos (by simp[Act.eval] <;> rfl) hOw hLb.out (by omega) (by simp[Act.eval]) rfl s3.out ?_;intro ao6 cap6 w6 hw6 hg6;obtain⟨y0,y1⟩:=HS.out w6 _ hg6))
         rw[show([.string x,.string y]:List Value)=Jv (x,y) from rfl,yA]at hw6;have HM2:=(show Hid _ from HW5.out.grew hg6 hw6);clear hw6 hg6;go_wp2
         go_roundg (V.length-(q+1))
         case measure=>omega
         case rel=>exact⟨q+1,⟨ao6,cap6⟩,L3++[(x,y)],⟨by omega,by omega⟩,rfl,by simp[kE,kg],by go_num,by simp;omega,HM,HM2⟩
      ·have eq:q=V.length:=by omega
       subst eq;have HM:Hid (L3=kH T S n V (m+1)):=by show _=_;rw[tV];exact HL3.out
       go_wp2
       go_roundg (V.length-(m+1))
       case measure=>omega
       case rel=>exact⟨m+1,h3,L3,by omega,rfl,rfl,by go_num,by omega,HM,HW4⟩
    ·have e:m=V.length:=by omega
     subst e;have HM:Hid (lO T S n=L):=by show _=_;rw[HPV.out,HL.out]
     go_wp2;go_ret;exact⟨h2,by rw[HM.out];rfl,by rw[HM.out];exact HW3.out.base HKr.out⟩
end Go.Proofs.YtpddjjabfbfifaaGreat

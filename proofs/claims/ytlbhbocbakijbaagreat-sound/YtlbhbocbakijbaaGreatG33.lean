import Derived.OwnWalk
import Derived.Test.YtlbhbocbakijbaaGreatG21
import Derived.Test.YtlbhbocbakijbaaGreatG31
namespace Go.Proofs.YtlbhbocbakijbaaGreat
open Go.RowKit
set_option maxHeartbeats 0
def jT(L:List Rw)(n:Nat):Bool:=(cR L n==4)||(cR L n==5)
def jB(x:fk):Option Nat:=if(x.kind==2)=true then some x.number else none
def iM(l:List St)(n:Nat):List Nat:=match l[n]? with
 | some s=>(bR l n s).1.filterMap jB
 | none=>[]
def jS(ms:List Bool)(m:Nat):List Bool:=if m<ms.length then ms.set m true else ms
def km(ms:List Bool)(ns:List Nat):List Bool:=ns.foldl jS ms
def ie(l:List St)(L:List Rw)(ms:List Bool)(k:Nat):List Bool:=if ms.getD k false=true/\jT L k=true then km ms (iM l k) else ms
def gy(l:List St)(L:List Rw):Nat->List Bool->List Bool
 | 0,ms=>ms
 | k+1,ms=>gy l L k (ie l L ms k)
def iP(l:List St)(L:List Rw)(a:Nat):List Bool:=gy l L (a+1) ((List.replicate l.length false).set a true)
theorem rx(ms:List Bool)(m:Nat):(jS ms m).length=ms.length:=by
 unfold jS;split
 ·rw[List.length_set]
 ·rfl
theorem zy(ms:List Bool)(m q:Nat):(jS ms m).getD q false=true ↔ ms.getD q false=true∨(q=m/\m<ms.length):=by
 unfold jS
 split
 ·next h =>
  rw[List.getD_eq_getElem?_getD,List.getElem?_set,List.getD_eq_getElem?_getD]
  by_cases e:m=q
  ·subst e
   rw[if_pos rfl,if_pos h];exact⟨fun _=>Or.inr ⟨rfl,h⟩,fun _=>rfl⟩
  ·rw[if_neg e]
   exact⟨Or.inl,fun h=>h.elim id (fun h=>absurd h.1.symm e)⟩
 ·next h=>exact⟨Or.inl,fun h2=>h2.elim id (fun h2=>absurd h2.2 h)⟩
theorem zz(ns:List Nat):∀ms,(km ms ns).length=ms.length:=by
 induction ns with
 | nil=>intro ms;rfl
 | cons m r ih=>intro ms;show(km (jS ms m) r).length=_;rw[ih,rx]
theorem kS(ns:List Nat):∀ms q,(km ms ns).getD q false=true ↔ ms.getD q false=true∨(q∈ns/\q<ms.length):=by
 induction ns with
 | nil=>intro ms q;exact⟨Or.inl,fun h=>h.elim id (fun h=>by cases h.1)⟩
 | cons m r ih =>
  intro ms q
  show(km (jS ms m) r).getD q false=true ↔ _
  rw[ih,zy,rx]
  constructor
  ·rintro ((h | ⟨rfl,h⟩) | ⟨h1,h2⟩)
   ·exact Or.inl h
   ·exact Or.inr ⟨List.mem_cons_self,h⟩
   ·exact Or.inr ⟨List.mem_cons_of_mem _ h1,h2⟩
  ·rintro (h | ⟨h1,h2⟩)
   ·exact Or.inl (Or.inl h)
   ·rcases List.mem_cons.1 h1 with rfl | h1
    ·exact Or.inl (Or.inr ⟨rfl,h2⟩)
    ·exact Or.inr ⟨h1,h2⟩
section
variable {l:List St} {L:List Rw}
theorem pR(ms:List Bool)(k:Nat):(ie l L ms k).length=ms.length:=by
 unfold ie;split
 ·exact zz _ _
 ·rfl
theorem zR(k:Nat):∀ms,(gy l L k ms).length=ms.length:=by
 induction k with
 | zero=>intro ms;rfl
 | succ k ih=>intro ms;rw[gy,ih,pR]
theorem nk{n m:Nat}(h:m∈iM l n):m<n:=by
 unfold iM at h
 split at h
 ·next s hs =>
  obtain⟨x,hx,e⟩:=List.mem_filterMap.1 h;unfold jB at e
  split at e
  ·next h2 =>
   obtain⟨i,hi,ei⟩:=List.getElem_of_mem hx;have h2:x.kind=2:=by simpa using h2
   rcases yx l n s i x (by rw[List.getElem?_eq_getElem hi,ei]) with g | ⟨g,-⟩ | ⟨-,g⟩
   ·omega
   ·omega
   ·rw[<-Option.some.inj e];exact E0 g
  ·cases e
 ·cases h
def RP(l:List St)(L:List Rw)(a m:Nat):Prop:=∀P:Nat->Prop,P a->(∀t m:Nat,P t->jT L t=true->m∈iM l t->P m)->P m
theorem RP.step{a t m:Nat}(h:RP l L a t)(h2:jT L t=true)(h3:m∈iM l t):RP l L a m:=fun P h0 hs=>hs t m (h P h0 hs) h2 h3
theorem wM{a:Nat}{ms:List Bool}(k:Nat)(h:∀m,ms.getD m false=true->RP l L a m):∀m,(ie l L ms k).getD m false=true->RP l L a m:=fun m hm=>by
 unfold ie at hm
 split at hm
 ·next hk =>
  rcases(kS _ _ _).1 hm with h1 | ⟨h1,-⟩
  ·exact h m h1
  ·exact(h k hk.1).step hk.2 h1
 ·exact h m hm
theorem zS{a:Nat}(k:Nat):∀ms,(∀m,ms.getD m false=true->RP l L a m)->∀m,(gy l L k ms).getD m false=true->RP l L a m:=by
 induction k with
 | zero=>intro ms h;exact h
 | succ k ih=>intro ms h;rw[gy];exact ih _ (wM k h)
theorem uL(ms:List Bool)(k m:Nat)(h:ms.getD m false=true):(ie l L ms k).getD m false=true:=by
 unfold ie;split
 ·exact(kS _ _ _).2 (Or.inl h)
 ·exact h
theorem pS(k:Nat):∀ms m,ms.getD m false=true->(gy l L k ms).getD m false=true:=by
 induction k with
 | zero=>intro ms m h;exact h
 | succ k ih=>intro ms m h;rw[gy];exact ih _ m (uL ms k m h)
theorem rI(ms:List Bool)(k m:Nat)(h:k<=m):(ie l L ms k).getD m false=ms.getD m false:=by
 rw[Bool.eq_iff_iff];unfold ie;split
 ·rw[kS]
  exact⟨fun h2=>h2.elim id (fun h2=>by have:=nk h2.1;omega),Or.inl⟩
 ·exact Iff.rfl
theorem CH(k:Nat):∀ms m,k<=m->(gy l L k ms).getD m false=ms.getD m false:=by
 induction k with
 | zero=>intro ms m _;rfl
 | succ k ih=>intro ms m h;rw[gy,ih _ m (by omega),rI ms k m (by omega)]
theorem CG(k:Nat):∀ms,∀t,t<k->k<=ms.length->(gy l L k ms).getD t false=true->jT L t=true->∀m∈iM l t,(gy l L k ms).getD m false=true:=by
 induction k with
 | zero=>intro ms t h;omega
 | succ k ih =>
  intro ms t ht hl hm hp m hn;rw[gy]at hm ⊢
  by_cases e:t<k
  ·exact ih _ t e (by rw[pR];omega) hm hp m hn
  ·have e:t=k:=by omega
   subst e;rw[CH t _ t (Nat.le_refl _),rI ms t t (Nat.le_refl _)]at hm
   apply pS
   unfold ie;rw[if_pos ⟨hm,hp⟩,kS];exact Or.inr ⟨hn,by have:=nk hn;omega⟩
theorem sS{a:Nat}(ha:a<l.length)(m:Nat):(iP l L a).getD m false=true ↔ RP l L a m:=by
 have h0:∀m,((List.replicate l.length false).set a true).getD m false=true ↔ m=a:=fun m=>by
  rw[List.getD_eq_getElem?_getD,List.getElem?_set]
  by_cases e:a=m
  ·subst e;rw[if_pos rfl,if_pos (by rw[List.length_replicate];exact ha)];exact⟨fun _=>rfl,fun _=>rfl⟩
  ·rw[if_neg e,List.getElem?_replicate]
   constructor
   ·intro h
    split at h <;> cases h
   ·intro h;exact absurd h.symm e
 constructor
 ·exact zS _ _ (fun m hm=>by rw[(h0 m).1 hm];exact fun P h _=>h) m
 ·intro h
  have key:∀m,RP l L a m->m<=a/\(iP l L a).getD m false=true:=fun m h=>by
   refine h (fun m=>m<=a/\(iP l L a).getD m false=true) ⟨Nat.le_refl _,pS _ _ _ ((h0 a).2 rfl)⟩ (fun t m ht hp hn=>?_);have:=nk hn;exact⟨by omega,CG (a+1) _ t (by omega) (by rw[List.length_set,List.length_replicate];omega) ht.2 hp m hn⟩
  exact(key m h).2
theorem RP.le{a m:Nat}(h:RP l L a m):m<=a:=h (fun m=>m<=a) (Nat.le_refl _) (fun t m ht _ hn=>by have:=nk hn;omega)
end
def E7(l:List St)(L:List Rw)(a n:Nat):Bool:=(iP l L a).getD n false&&(cR L n==1)
def FP(l:List St)(L:List Rw)(a n:Nat):Bool:=(iP l L a).getD n false&&((cR L n==2)||(cR L n==3))
def lB(l:List St)(L:List Rw)(a:Nat):List ByteArray×List ByteArray:=(((List.range l.length).filter (E7 l L a)).map (eS l),((List.range l.length).filter (FP l L a)).map (eS l))
theorem mM{l:List St}{n:Nat}{s:St}(hs:l[n]?=some s):((bq l n).verdict=4∨(bq l n).verdict=5->s.kind=5)/\((bq l n).verdict==1)=(s.kind==4)/\(((bq l n).verdict==2)||((bq l n).verdict==3))=((s.kind==5) && !(((bq l n).verdict==4)||((bq l n).verdict==5))):=by
 have e:bq l n=if(s.kind==4)=true then⟨s.label,1,0,fJ⟩ else if(s.kind==5)=true then bP l n s (aK l n) else jX:=by unfold bq fD;rw[hs]
 by_cases h4:s.kind=4
 ·have b4:(s.kind==4)=true:=by rw[h4];rfl
  have b5:(s.kind==5)=false:=by rw[h4];rfl
  rw[b4,if_pos rfl]at e;rw[e,b4,b5];exact⟨(fun h=>by rcases h with h | h <;> cases h),rfl,rfl⟩
 ·have b4:(s.kind==4)=false:=beq_eq_false_iff_ne.2 h4
  rw[b4,if_neg (by simp)]at e
  by_cases h5:s.kind=5
  ·have b5:(s.kind==5)=true:=by rw[h5];rfl
   rw[b5,if_pos rfl]at e;rw[e,b4,b5]
   rcases lL l n s (aK l n) with h | h | h | h <;> (rw[h];exact⟨fun _=>h5,by decide,by decide⟩)
  ·have b5:(s.kind==5)=false:=beq_eq_false_iff_ne.2 h5
   rw[b5,if_neg (by simp)]at e;rw[e,b4,b5];exact⟨(fun h=>by rcases h with h | h <;> cases h),rfl,rfl⟩
theorem sB(b o n:Nat)(l:List St)(H:Nat->Hd)(g:Nat)(L:List Rw)(w:World)(h:eR w b o l H g L) :
  Calls Tryz.prog 96 #[.pointer (some ⟨b,o,none⟩),.int .i64 n] w fun e w'=>e=.returned (.bool (jT L n))/\w'=w:=by
 have HV:=(show Hid _ from iZ b o n l H g L w h);have HP:Hid (jT L n=((cR L n==4)||(cR L n==5))):=rfl;clear h;generalize cR L n=v at *
 cases h4:(v==4)
 ·rw[h4,Bool.false_or]at HP
  go_enter Tryz.func96,Tryz.ntmps96;go_wp2_with (go_at_call 85;refine Calls.mono HV.out ?_;rintro e w1 ⟨rfl,hw1⟩;rw[hw1]);go_ret;exact⟨GQ HP.out.symm,rfl⟩
 ·rw[h4,Bool.true_or]at HP
  go_enter Tryz.func96,Tryz.ntmps96;go_wp2_with (go_at_call 85;refine Calls.mono HV.out ?_;rintro e w1 ⟨rfl,hw1⟩;rw[hw1]);go_ret;exact⟨GQ HP.out.symm,rfl⟩
theorem Cp(l:List St)(a:Nat)(fin:Pl)(ws:List (ByteArray×Pl)):∀acc,((bM l a fin ws acc).2.1==0)=false->(bM l a fin ws acc).1=[]:=by
 induction ws with
 | nil =>
  intro acc;rw[bM]
  split
  ·intro _;rfl
  ·intro h;cases h
 | cons x r ih =>
  intro acc;obtain⟨t,p⟩:=x;rw[bM]
  split
  ·exact ih _
  ·split
   ·intro _;rfl
   ·exact ih _
theorem Ey(l:List St)(a:Nat)(s:St):((bR l a s).2.1==0)=false->(bR l a s).1=[]:=by
 unfold bR
 split
 ·unfold fH j9
  split
  ·split
   ·split
    ·intro _;rfl
    ·intro h;cases h
   ·intro _;rfl
  ·intro _;rfl
 ·exact Cp _ _ _ _ _
def nQ(steps:List fk)(k:Nat):List Nat:=(steps.take k).filterMap jB
theorem zC(steps:List fk)(k:Nat)(h:k<steps.length)(h2:(steps[k].kind==2)=true):nQ steps (k+1)=nQ steps k++[steps[k].number]:=by
 unfold nQ;rw[List.take_succ_eq_append_getElem h,List.filterMap_append]
 congr 1
 rw[List.filterMap_cons,List.filterMap_nil];unfold jB;rw[if_pos h2]
theorem Cm(steps:List fk)(k:Nat)(h:k<steps.length)(h2:(steps[k].kind==2)=false):nQ steps (k+1)=nQ steps k:=by
 unfold nQ;rw[List.take_succ_eq_append_getElem h,List.filterMap_append,List.filterMap_cons,List.filterMap_nil];unfold jB;rw[if_neg (by rw[h2];simp),List.append_nil]
set_option maxRecDepth 100000 in
theorem zD(b o n:Nat)(l:List St)(H:Nat->Hd)(g:Nat)(L:List Rw)(w:World)(h:eR w b o l H g L)(ok:db l)(hn:n<l.length)(okp:iQ l[n]) :
  Calls Tryz.prog 100 #[.pointer (some ⟨b,o,none⟩),.int .i64 n] w fun e w'=>∃hd:Hd,e=.returned (.slice hd.ao (iM l n).length hd.cap)/\qA w w' hd (aP (iM l n)):=by
 have hbw:=h.recd.lt;obtain⟨i0,hi,hz0,hz1,hz2⟩:=info_parts fU;have HRD:=(show Hid _ from rC b o n l H w h.recd hn ok okp);have hsl:=(sP l n ok hn okp).len;have HB:=(show Hid _ from Ey l n l[n]);have HN:Hid (iM l n=(bR l n l[n]).1.filterMap jB):=by show _=_;unfold iM;rw[List.getElem?_eq_getElem hn]
 clear h okp;generalize bR l n l[n]=PF at *;obtain⟨steps,pf,pp⟩:=PF;simp only at HRD hsl HB HN;go_enter Tryz.func100,Tryz.ntmps100
 go_upto_region 3 with (go_at_call 97;refine Calls.mono HRD.out ?_;rintro e w3 ⟨hd,rfl,hO3,hN3,k3⟩;unfold eM)
 obtain⟨W4,hW4⟩:∃W4,W4=w3.alloc (.cells #[.int .i64 pf,.string pp.file,.int .i64 pp.line,.int .i64 pp.col] 167):=⟨_,rfl⟩
 have k4:aa [] w W4:=by rw[hW4];exact k3.alloc _
 have B9:W4.heap[w3.heap.size]?=some (.cells (tZ (pf,pp)) 167 (0,0)):=by rw[hW4];exact heap_alloc_new _ _
 have hO4:au W4 hd (dB steps):=by rw[hW4];exact hO3.moved (fun x hx=>((aa.refl [] _).alloc _).block x (hO3.lt hx) (by simp))
 rw[<-hW4];clear hW4 hO3 k3;have f0:W4.cell? ⟨w3.heap.size,0,none⟩=some (.int .i64 pf):=by rw[ab B9];rfl
 have fz:=ac B9;have HK4:=(show Hid _ from k4);obtain⟨AO,HAO⟩:∃AO,Hid (hd.ao=AO):=⟨_,rfl⟩
 rw[HAO.out]
 cases hz:(pf==0)
 ·have HE:=(show Hid _ from HB.out hz)
  have hz':(pf != 0)=true:=by simp[bne,hz]
  go_wp2;go_ret;refine⟨⟨none,0⟩,?_,?_⟩
  ·rw[HN.out,HE.out];rfl
  ·rw[HN.out,HE.out];exact⟨World.ownsRow_nil _ _ _ _,(by intro k hk;cases hk),HK4.out⟩
 ·have hz':(pf != 0)=false:=by simp[bne,hz]
  have HO4:=(show Hid _ from hO4);clear hO4 HB k4;go_wp2
  go_loopg [5,8] steps.length (fun gk sv i wr=>∃(k:Nat) (h5:Hd) (acc:List Nat),k<=steps.length/\gk=steps.length-k/\sv=.slice h5.ao acc.length h5.cap/\i=.int .i64 k/\acc.length<=k/\Hid (acc=nQ steps k)/\Hid (au wr h5 (aP acc))/\Hid (∀x,h5.blk=some x->w.heap.size<=x)/\Hid (aa [] w wr)/\Hid (au wr hd (dB steps))/\Hid (∀x,h5.blk=some x->hd.blk≠some x))
  case atStart=>exact⟨0,⟨none,0⟩,[],by omega,rfl,rfl,rfl,Nat.le_refl _,rfl,World.ownsRow_nil _ _ _ _,(by intro x hx;cases hx),HK4,HO4,(by intro x hx;cases hx)⟩
  case round =>
   obtain⟨k,h5,acc,hk,hgk,rfl,rfl,hal,HA,HO,HF,HK,HP,HAP⟩:=hrel
   by_cases hlt:k<steps.length
   ·have hki:(k:Int)<(steps.length:Int):=by omega
    obtain⟨gp,ep,ecap,ecap2,d0,d1,-⟩:=HP.out.step k hlt;obtain rfl:AO=some ⟨gp,0,none⟩:=HAO.out.symm.trans ep;have HEP:=(show Hid _ from ep);clear ep;have HY:=(show Hid _ from zC steps k hlt);have HX:=(show Hid _ from Cm steps k hlt);generalize steps[k]=st at *
    cases hb:(st.kind==2)
    ·have HT:=(show Hid _ from HX.out hb)
     clear HX HY;go_wp2
     go_roundg (steps.length-(k+1))
     case measure=>omega
     case rel=>exact⟨k+1,h5,acc,by omega,rfl,rfl,by go_num,by omega,by show _=_;rw[HT.out];exact HA.out,HO,HF,HK,HP,HAP⟩
    ·have HT:=(show Hid _ from HY.out hb)
     have hO4:=HO.out.moved (fun x hx=>((aa.refl [] wr).alloc (.cells #[.int .i64 st.number] 3)).block x (HO.out.lt hx) (by simp));have HP4:Hid (au (wr.alloc (.cells #[.int .i64 st.number] 3)) hd (dB steps)):=HP.out.moved (fun x hx=>((aa.refl [] wr).alloc _).block x (HP.out.lt hx) (by simp));have HK4':Hid (aa [] w (wr.alloc (.cells #[.int .i64 st.number] 3))):=HK.out.alloc _;clear HX HY;go_wp2_with (at_builtin;refine ay _ rfl (.tmp 32) (.tmp 38) 33 rfl i0 (.int .i64 0) 8 h5 (aP acc) Tryz.underlying33 hi hz0 hz1 hz2 rfl Nat.one_pos rfl (by exact hO4) ⟨_,0,none⟩ 1 1 [.int .i64 st.number] rfl rfl ?d1 ?d2 Nat.one_pos ?d3 ?d4 ?_)
     case d1=>intro j u hj;match j,hj with | 0,hj=>simp at hj;subst hj;simp[Addr.add]
     case d2=>intro u hu;simp at hu;subst hu;rfl
     case d3=>simp only[aP];unfold maxLen;omega
     case d4=>simp only[aP];omega
     intro g5 cap5 w5 hw5 hgr5 hfresh5;have hsz:(wr.alloc (.cells #[.int .i64 st.number] 3)).heap.size=wr.heap.size+1:=by simp
     replace hfresh5:h5.blk=some g5∨(wr.alloc (.cells #[.int .i64 st.number] 3)).heap.size<=g5:=by rw[hsz];exact hfresh5
     rw[gL acc st.number]at hw5;have hK5:=HK4'.out.grown hgr5 HF.out;have GT:dO (wr.alloc (.cells #[.int .i64 st.number] 3)) w5 h5 ⟨some ⟨g5,0,none⟩,cap5⟩:=dO.made hgr5 hfresh5;have hP5:au w5 hd (dB steps):=GT.beside HP4.out (fun q hq hq2=>HAP.out q hq2 hq)
     have hg5:w.heap.size<=g5:=by
      rcases hfresh5 with e | e
      ·exact HF.out g5 e
      ·have:=HK4'.out.size;omega
     have hA5:∀x,(⟨some ⟨g5,0,none⟩,cap5⟩:Hd).blk=some x->hd.blk≠some x:=fun x hx hq=>by
      have e:g5=x:=by simpa [Hd.blk] using hx
      subst e
      rcases hfresh5 with e | e
      ·exact HAP.out g5 e hq
      ·have:=HP4.out.lt hq;omega
     have hEl:Hid ((aP acc).n+1=(acc++[st.number]).length):=by show _=_;simp[aP]
     rw[hEl.out];have HR:Hid (au w5 ⟨some ⟨g5,0,none⟩,cap5⟩ (aP (acc++[st.number]))/\aa [] w w5/\au w5 hd (dB steps)/\(∀x,(⟨some ⟨g5,0,none⟩,cap5⟩:Hd).blk=some x->hd.blk≠some x)/\(∀x,(⟨some ⟨g5,0,none⟩,cap5⟩:Hd).blk=some x->w.heap.size<=x)):=⟨hw5,hK5,hP5,hA5,by intro x hx;simp[Hd.blk]at hx;omega⟩;clear hgr5 hfresh5 hO4 hw5 hK5 hP5 hA5 GT hsz;go_wp2
     go_roundg (steps.length-(k+1))
     case measure=>omega
     case rel=>exact⟨k+1,⟨some ⟨g5,0,none⟩,cap5⟩,acc++[st.number],by omega,rfl,rfl,by go_num,by rw[List.length_append];show _+1<=_;omega,by show _=_;rw[HT.out,<-HA.out],HR.out.1,HR.out.2.2.2.2,HR.out.2.1,HR.out.2.2.1,HR.out.2.2.2.1⟩
   ·have hnn:¬(k:Int)<(steps.length:Int):=by omega
    have HE:Hid (acc=iM l n):=by
     show _=_
     rw[HA.out,HN.out];unfold nQ;rw[List.take_of_length_le (by omega)]
    go_wp2;go_ret;exact⟨h5,by rw[<-HE.out];rfl,by rw[<-HE.out];exact⟨HO.out,HF.out,HK.out⟩⟩
theorem Es{w:World}{hd:Hd}{l:List Nat}(h:au w hd (aP l)){k:Nat}(hk:k<l.length):∃g,hd.ao=some ⟨g,0,none⟩/\g<w.heap.size/\w.cell? ⟨g,k,none⟩=some (.int .i64 (l[k]:Nat))/\l.length<=hd.cap:=by
 rcases h.ways with ⟨-,e,-⟩ | ⟨g,cur,e1,e2,e3,-⟩
 ·have e:l.length=0:=e
  omega
 ·exact⟨g,e1,h.lt (by unfold Hd.blk;rw[e1];rfl),h.cell e1 k _ (by simp[aP,iO,hk]),e3⟩
set_option maxRecDepth 100000 in
theorem sZ(b o a:Nat)(l:List St)(H:Nat->Hd)(g:Nat)(L:List Rw)(w:World)(h:eR w b o l H g L)(ok:db l)(ha:a<l.length)(okp:∀n (hn:n<l.length),iQ l[n]) :
  Calls Tryz.prog 86 #[.pointer (some ⟨b,o,none⟩),.int .i64 a] w fun e w'=>e=.returned (.slice (some ⟨w.heap.size,0,none⟩) l.length l.length)/\jd w' w.heap.size (iP l L a)/\aa [] w w':=by
 have hlen:=ok.len;have hbw:=h.recd.lt;obtain⟨i1,hi1,hy0,hy1,hy2⟩:=info_parts Fk;have HCT:=(show Hid _ from cL b o l H w h.recd);have m2:=fun w=>cA (P:=Tryz.prog) w 140 4 i1 _ Tryz.underlying140 hi1 hy0 l.length 1 hy1 (by rw[hy2];omega) (by omega)
 obtain⟨mc,Hmc⟩:∃mc,Hid (madeCells (Value.bool false).cells (l.length*1)=mc):=⟨_,rfl⟩
 have HMC:Hid (mc=((List.replicate l.length false).map Value.bool).toArray):=by show _=_;rw[<-Hmc.out,wC]
 rw[Hmc.out]at m2;have m3:=m2 w;obtain⟨W,HW⟩:∃W,Hid (w.alloc (.cells (mc.setIfInBounds a (.bool true)) 4)=W):=⟨_,rfl⟩
 have SN0:jd (w.alloc (.cells mc 4)) w.heap.size (List.replicate l.length false):=by
  unfold jd;rw[HMC.out];exact heap_alloc_new _ _
 have SN1:Hid (jd W w.heap.size ((List.replicate l.length false).set a true)):=by
  show jd _ _ _
  unfold jd;rw[<-HW.out,HMC.out];refine(heap_alloc_new _ _).trans ?_
  congr 2
  rw[List.setIfInBounds_toArray,List.map_set]
 have HKW:Hid (aa [] w W):=by show aa [] w W;rw[<-HW.out];exact(aa.refl [] _).alloc _
 have c0:(w.alloc (.cells mc 4)).cell? ⟨w.heap.size,a,none⟩=some (.bool false):=SN0.cell a false (by rw[List.getElem?_replicate,if_pos (by omega)]);have f0:=an SN0 a;have z0:=ac SN0;have hai:(a:Int)<(l.length:Int):=by omega
 have hnl:¬(a:Int)<0:=by omega
 have hng:¬l.length<=a:=by omega
 have HR:=(show Hid _ from h);have HOKP:=(show Hid _ from okp);have HIP:Hid (∀n wx,aa [] w wx->Calls Tryz.prog 96 #[.pointer (some ⟨b,o,none⟩),.int .i64 (n:Nat)] wx fun e w'=>e=.returned (.bool (jT L n))/\w'=wx):=fun n wx k=>sB b o n l H g L wx (h.still k)
 have HNM:Hid (∀n wx,n<l.length->aa [] w wx->Calls Tryz.prog 100 #[.pointer (some ⟨b,o,none⟩),.int .i64 (n:Nat)] wx fun e w'=>∃hd:Hd,e=.returned (.slice hd.ao (iM l n).length hd.cap)/\qA wx w' hd (aP (iM l n))):=fun n wx hn k=>zD b o n l H g L wx (h.still k) ok hn (okp n hn)
 have HNL:Hid (∀n,(iM l n).length<=1100000):=fun n=>by
  unfold iM
  by_cases hn:n<l.length
  ·rw[List.getElem?_eq_getElem hn]
   have h1:=List.length_filterMap_le jB (bR l n l[n]).1;have h2:=(sP l n ok hn (okp n hn)).len;simp only;omega
  ·rw[List.getElem?_eq_none (by omega)];simp
 clear h okp SN0 m2;go_enter Tryz.func86,Tryz.ntmps86
 go_upto_region 5 with (go_at_call 77;refine Calls.mono HCT.out ?_;rintro e wc ⟨rfl,hwc⟩;rw[hwc];clear hwc)
 rw[HW.out];clear c0 f0 z0 m3;go_wp2
 go_loopg [6] (a+1) (fun gk nv wr=>∃(k:Nat) (ms:List Bool),k<=a+1/\gk=k/\nv=.int .i64 ((k:Int)-1)/\ms.length=l.length/\Hid (gy l L k ms=iP l L a)/\Hid (jd wr w.heap.size ms)/\Hid (aa [] w wr))
 case atStart=>exact⟨a+1,_,Nat.le_refl _,rfl,by simp,by simp,rfl,SN1,HKW⟩
 case round =>
  obtain⟨k,ms,hk,hgk,rfl,hml,HT,HSN,HK⟩:=hrel
  cases k with
  | zero =>
   have hz:¬(((0:Nat):Int)-1 ≥ 0):=by omega
   go_wp2;go_ret;exact⟨rfl,by rw[<-HT.out];exact HSN.out,HK.out⟩
  | succ k =>
   have hkk:(((k+1:Nat):Int)-1)=(k:Int):=by omega
   rw[hkk];have hge:(k:Int) ≥ 0:=by omega
   have hkl:k<l.length:=by omega
   have hki:(k:Int)<(l.length:Int):=by omega
   have c0:=HSN.out.cell k (ms.getD k false) (by rw[List.getD_eq_getElem?_getD,List.getElem?_eq_getElem (by omega)];rfl);have z0:=ac HSN.out;have HIP1:=(show Hid _ from HIP.out k wr HK.out)
   have HSK:Hid (¬(ms.getD k false=true/\jT L k=true)->gy l L k ms=iP l L a):=fun hn=>by
    have:=HT.out;rw[gy]at this;unfold ie at this;rw[if_neg hn]at this;exact this
   cases hm:ms.getD k false
   ·rw[hm]at c0 HSK
    have HS:=(show Hid _ from HSK.out (by simp));go_wp2
    go_roundg k
    case measure=>omega
    case rel=>exact⟨k,ms,by omega,rfl,by go_num,hml,HS,HSN,HK⟩
   ·rw[hm]at c0 HSK
    cases hp:jT L k
    ·rw[hp]at HIP1 HSK
     have HS:=(show Hid _ from HSK.out (by simp));go_wp2_with (go_at_call 96;refine Calls.mono HIP1.out ?_;rintro e wp ⟨rfl,hwp⟩;rw[hwp];clear hwp)
     go_roundg k
     case measure=>omega
     case rel=>exact⟨k,ms,by omega,rfl,by go_num,hml,HS,HSN,HK⟩
    ·rw[hp]at HIP1
     have HM:Hid (gy l L k (km ms (iM l k))=iP l L a):=by
      have:=HT.out;rw[gy]at this;unfold ie at this;rw[if_pos ⟨hm,hp⟩]at this;exact this
     have HNM1:=(show Hid _ from HNM.out k wr hkl HK.out);have hnl2:=HNL.out k;clear HSK HT
     go_upto_region 9 with (go_at_call 96;refine Calls.mono HIP1.out ?_;rintro e wp ⟨rfl,hwp⟩;rw[hwp];clear hwp)
     go_upto_region 10 with (go_at_call 100;refine Calls.mono HNM1.out ?_;rintro e w2 ⟨hd,rfl,x2⟩)
     have HX:=(show Hid _ from x2);have HSN2:Hid (jd w2 w.heap.size ms):=HSN.out.kept x2.kept (by simp);have HK2:Hid (aa [] w w2):=HK.out.trans x2.kept;have HOW:Hid (au w2 hd (aP (iM l k))):=x2.own;have HFR:Hid (hd.blk≠some w.heap.size):=fun e=>by have:=x2.far _ e;have:=ac HSN.out;omega
     clear x2 HX HNM1 HIP1 c0 z0;obtain⟨AO,HAO⟩:∃AO,Hid (hd.ao=AO):=⟨_,rfl⟩
     rw[HAO.out];generalize iM l k=nm at *;go_wp2
     go_loopg [8] nm.length (fun gk iv wr=>∃(i:Nat) (ms':List Bool),i<=nm.length/\gk=nm.length-i/\iv=.int .i64 i/\ms'.length=l.length/\Hid (km ms' (nm.drop i)=km ms nm)/\Hid (jd wr w.heap.size ms')/\Hid (au wr hd (aP nm))/\Hid (aa [] w wr))
     case atStart=>exact⟨0,ms,by omega,rfl,rfl,hml,rfl,HSN2,HOW,HK2⟩
     case round =>
      obtain⟨i,ms',hi,hgi,rfl,hml',HD,HS',HO',HK'⟩:=hrel
      by_cases hlt:i<nm.length
      ·have hii:(i:Int)<(nm.length:Int):=by omega
       obtain⟨gp,ep,gz,d0,dc⟩:=Es HO'.out hlt;obtain rfl:AO=some ⟨gp,0,none⟩:=HAO.out.symm.trans ep;have HEP:=(show Hid _ from ep);clear ep;have z1:=ac HS'.out
       have HNX:Hid (km (jS ms' nm[i]) (nm.drop (i+1))=km ms nm):=by
        have:=HD.out;rw[List.drop_eq_getElem_cons hlt]at this;exact this
       generalize nm[i]=x at *;have hx0:(x:Int) ≥ 0:=by omega
       by_cases hxl:x<l.length
       ·have hxi:(x:Int)<(l.length:Int):=by omega
        have c1:=HS'.out.cell x (ms'.getD x false) (by rw[List.getD_eq_getElem?_getD,List.getElem?_eq_getElem (by omega)];rfl);have f1:=an HS'.out x;have HB:Hid (jS ms' x=ms'.set x true):=by show _=_;unfold jS;rw[if_pos (by omega)]
        rw[HB.out]at HNX;have HSet:Hid (jd (wr.setCell ⟨w.heap.size,x,none⟩ (.bool true)) w.heap.size (ms'.set x true)):=HS'.out.set x;have HKs:Hid (aa [] w (wr.setCell ⟨w.heap.size,x,none⟩ (.bool true))):=HK'.out.setCell (Or.inr (Nat.le_refl _)) _;have HOs:Hid (au (wr.setCell ⟨w.heap.size,x,none⟩ (.bool true)) hd (aP nm)):=HO'.out.moved (fun q hq=>((aa.refl [w.heap.size] wr).setCell (Or.inl (by simp)) _).block q (HO'.out.lt hq) (by simp;intro e;rw[e]at hq;exact HFR.out hq));go_wp2
        go_roundg (nm.length-(i+1))
        case measure=>omega
        case rel=>exact⟨i+1,ms'.set x true,by omega,rfl,by go_num,by rw[List.length_set];exact hml',HNX,HSet,HOs,HKs⟩
       ·have hxi:¬(x:Int)<(l.length:Int):=by omega
        have HB:Hid (jS ms' x=ms'):=by show _=_;unfold jS;rw[if_neg (by omega)]
        rw[HB.out]at HNX;go_wp2
        go_roundg (nm.length-(i+1))
        case measure=>omega
        case rel=>exact⟨i+1,ms',by omega,rfl,by go_num,hml',HNX,HS',HO',HK'⟩
      ·have hin:¬(i:Int)<(nm.length:Int):=by omega
       have HE:Hid (ms'=km ms nm):=by
        have:=HD.out;rw[List.drop_eq_nil_of_le (by omega)]at this;exact this
       have HM2:Hid (gy l L k ms'=iP l L a):=by show _=_;rw[HE.out];exact HM.out
       go_wp2
       go_roundg k
       case measure=>omega
       case rel=>exact⟨k,ms',by omega,rfl,by go_num,hml',HM2,HS',HK'⟩
theorem nX(hd:Hd)(X:List ByteArray)(w:World)(ho:au w hd (am X))(hl:X.length<=100000) :
  Calls Tryz.prog 88 #[.slice hd.ao X.length hd.cap] w fun e w'=>∃bo:Option Nat,e=.returned (.slice (FN bo) X.length X.length)/\qC w' bo X/\(∀q,bo=some q->w.heap.size<=q)/\aa [] w w':=by
 obtain⟨i0,hi,hz0,hz1,hz2⟩:=info_parts dp
 by_cases hm:X.length=0
 ·have hM:X=[]:=List.eq_nil_of_length_eq_zero hm
  have hmi:((X.length:Int)==0)=true:=by rw[hm];rfl
  clear ho;go_enter Tryz.func88,Tryz.ntmps88;go_wp2;go_ret;exact⟨none,by rw[hm];rfl,⟨⟨fun _=>hM,fun _=>rfl⟩,fun b e=>by cases e⟩,(fun q e=>by cases e),aa.refl _ _⟩
 ·have hmi:((X.length:Int)==0)=false:=by rw[beq_eq_false_iff_ne];omega
  have m1:=fun w=>cA (P:=Tryz.prog) w 22 9 i0 _ Tryz.underlying22 hi hz0 X.length 1 hz1 (by rw[hz2];omega) (by omega)
  obtain⟨mc1,hmc1⟩:∃mc,mc=madeCells (Value.string ⟨#[]⟩).cells (X.length*1):=⟨_,rfl⟩
  have z1:mc1.size=X.length*1:=by rw[hmc1,size_madeCells]
  rw[<-hmc1]at m1;clear hmc1;obtain⟨W,HW⟩:∃W,Hid (w.alloc (.cells mc1 9)=W):=⟨_,rfl⟩
  have K2:aa [] w W:=by rw[<-HW.out];exact(aa.refl [] _).alloc _
  have GW:W.heap[w.heap.size]?=some (.cells mc1 9 (0,0)):=by rw[<-HW.out];exact heap_alloc_new _ _
  have Hsz1:(Tryz.prog.info? (am X).e).map (·.size)=some (am X).size:=by simp[am,hi,hz1]
  obtain⟨w3,cp1,hg3,hk3,hz3⟩:=jf (P:=Tryz.prog) W 22 22 3 w.heap.size X.length hd (am X) mc1 9 Tryz.underlying22 Hsz1 GW (ho.still K2) z1 (fun u hu=>by obtain⟨x,-,rfl⟩:=List.mem_map.1 hu;rfl);have cp2:(Builtin.copy_ #[22,22] 3 #[.slice (some ⟨w.heap.size,0,none⟩) X.length X.length,.slice hd.ao X.length hd.cap]).run Tryz.prog W=.ok (goInt X.length) w3:=cp1;have HG:Hid (qC w3 (some w.heap.size) X):=⟨⟨(fun e=>by cases e),fun e=>absurd (by rw[e];rfl) hm⟩,fun b e=>by cases e;exact hg3⟩;have HK:Hid (aa [] w w3):=((K2.mono (S':=[w.heap.size]) (by simp)).trans hk3).mono (by simp);clear ho K2 GW hg3 hk3 hz3 z1 cp1 Hsz1;go_enter Tryz.func88,Tryz.ntmps88
  go_upto_region 4 with fail
  rw[HW.out];go_wp2;go_ret;exact⟨some w.heap.size,rfl,HG.out,(fun q e=>by cases e;exact Nat.le_refl _),HK.out⟩
def xu(l:List St)(L:List Rw)(a k:Nat):List ByteArray:=((List.range k).filter (E7 l L a)).map (eS l)
def tk(l:List St)(L:List Rw)(a k:Nat):List ByteArray:=((List.range k).filter (FP l L a)).map (eS l)
theorem AB(l:List St)(L:List Rw)(a k:Nat):xu l L a (k+1)=xu l L a k++(if E7 l L a k=true then [eS l k] else []):=by
 unfold xu;rw[nM,List.map_append]
 split <;> rfl
theorem AC(l:List St)(L:List Rw)(a k:Nat):tk l L a (k+1)=tk l L a k++(if FP l L a k=true then [eS l k] else []):=by
 unfold tk;rw[nM,List.map_append]
 split <;> rfl
def Dv(A B:List ByteArray)(c:Int)(w:World)(e:Ending)(w':World):Prop:=∃b1 b2:Option Nat,e=.returned (.tuple #[.slice (FN b1) A.length A.length,.slice (FN b2) B.length B.length,.int .i64 c])/\qC w' b1 A/\qC w' b2 B/\(∀q,b1=some q->w.heap.size<=q)/\(∀q,b2=some q->w.heap.size<=q)/\(∀q,b1=some q->b2≠some q)/\aa [] w w'
section
attribute [local go_sem] nL
theorem GE{w w':World}{bo:Option Nat}{L:List ByteArray}(h:qC w bo L)(k:aa [] w w'):qC w' bo L:=⟨h.nil,fun b e=>k.get (h.blk b e) (by simp)⟩
structure vB(w wr:World)(gm:Nat)(ms:List Bool)(h1 h2:Hd)(A B:List ByteArray):Prop where
 a:qA w wr h1 (am A)
 b:qA w wr h2 (am B)
 ap:∀k,h1.blk=some k->h2.blk≠some k
 s:jd wr gm ms
 gw:w.heap.size<=gm
 f1:h1.blk≠some gm
 f2:h2.blk≠some gm
theorem vB.still{w wr wr':World}{gm:Nat}{ms:List Bool}{h1 h2:Hd}{A B:List ByteArray}(u:vB w wr gm ms h1 h2 A B)(k:aa [] wr wr'):vB w wr' gm ms h1 h2 A B :=
 ⟨u.a.still k,u.b.still k,u.ap,u.s.kept k (by simp),u.gw,u.f1,u.f2⟩
theorem vB.addA{w wr w':World}{gm:Nat}{ms:List Bool}{h1 h1' h2:Hd}{A A' B:List ByteArray}(u:vB w wr gm ms h1 h2 A B)(g:dO wr w' h1 h1')(o:au w' h1' (am A')):vB w w' gm ms h1' h2 A' B:=by
 obtain⟨n1,n2,n3⟩:=qA.two u.a u.b u.ap g o;have hz:=ac u.s;refine⟨n1,n2,n3,u.s.kept g.kept (fun h=>u.f1 (mA h)),u.gw,fun e=>?_,u.f2⟩
 rcases g.blk with e2 | ⟨q,e2,hq⟩
 ·exact u.f1 (by rw[<-e2];exact e)
 ·rw[e]at e2;cases e2;omega
theorem vB.addB{w wr w':World}{gm:Nat}{ms:List Bool}{h1 h2 h2':Hd}{A B B':List ByteArray}(u:vB w wr gm ms h1 h2 A B)(g:dO wr w' h2 h2')(o:au w' h2' (am B')):vB w w' gm ms h1 h2' A B':=by
 obtain⟨n1,n2,n3⟩:=qA.two u.b u.a (fun k hk hq=>u.ap k hq hk) g o;have hz:=ac u.s;refine⟨n2,n1,fun k hk hq=>n3 k hq hk,u.s.kept g.kept (fun h=>u.f2 (mA h)),u.gw,u.f1,fun e=>?_⟩
 rcases g.blk with e2 | ⟨q,e2,hq⟩
 ·exact u.f2 (by rw[<-e2];exact e)
 ·rw[e]at e2;cases e2;omega
set_option maxRecDepth 100000 in
theorem zQ(b o a:Nat)(l:List St)(H:Nat->Hd)(g:Nat)(L:List Rw)(w:World)(h:eR w b o l H g L)(ok:db l)(ha:a<l.length)(okp:∀n (hn:n<l.length),iQ l[n]) :
  Calls Tryz.prog 69 #[.pointer (some ⟨b,o,none⟩),.int .i64 a] w fun e w'=>if((cR L a==2)||(cR L a==3))=true then Dv [] [] 9 w e w' else Dv (lB l L a).1 (lB l L a).2 0 w e w':=by
 have hlen:=ok.len;have hbw:=h.recd.lt;obtain⟨i0,hi,hz0,hz1,hz2⟩:=info_parts dp;have HV:=(show Hid _ from iZ b o a l H g L w h);have HRC:=(show Hid _ from sZ b o a l H g L w h ok ha okp);have HR:=(show Hid _ from h);clear h okp
 have hv:((cR L a==2)=true)∨((cR L a==2)=false/\(cR L a==3)=true)∨((cR L a==2)=false/\(cR L a==3)=false):=by
  cases (cR L a==2) <;> cases (cR L a==3) <;> simp
 obtain⟨v,Hv⟩:∃v,Hid (cR L a=v):=⟨_,rfl⟩
 rw[Hv.out]at HV hv ⊢
 rcases hv with h2 | ⟨h2,h3⟩ | ⟨h2,h3⟩
 ·simp only[h2,Bool.true_or,if_true]
  go_enter Tryz.func69,Tryz.ntmps69;go_wp2_with (go_at_call 85;refine Calls.mono HV.out ?_;rintro e w1 ⟨rfl,hw1⟩;rw[hw1];clear hw1);go_ret3;exact⟨none,none,rfl,⟨⟨fun _=>rfl,fun _=>rfl⟩,fun b e=>by cases e⟩,⟨⟨fun _=>rfl,fun _=>rfl⟩,fun b e=>by cases e⟩,(fun q e=>by cases e),(fun q e=>by cases e),(fun q e=>by cases e),aa.refl _ _⟩
 ·simp only[h3,Bool.or_true,if_true]
  go_enter Tryz.func69,Tryz.ntmps69;go_wp2_with (go_at_call 85;refine Calls.mono HV.out ?_;rintro e w1 ⟨rfl,hw1⟩;rw[hw1];clear hw1);go_ret3;exact⟨none,none,rfl,⟨⟨fun _=>rfl,fun _=>rfl⟩,fun b e=>by cases e⟩,⟨⟨fun _=>rfl,fun _=>rfl⟩,fun b e=>by cases e⟩,(fun q e=>by cases e),(fun q e=>by cases e),(fun q e=>by cases e),aa.refl _ _⟩
 ·simp only[h2,h3,Bool.or_self,Bool.false_eq_true,if_false]
  go_enter Tryz.func69,Tryz.ntmps69
  go_upto_region 5 with (go_at_call 85;refine Calls.mono HV.out ?_;rintro e w1 ⟨rfl,hw1⟩;rw[hw1];clear hw1)
  go_upto_region 6 with (go_at_call 86;refine Calls.mono HRC.out ?_;rintro e w1 ⟨rfl,s1,k1⟩)
  have HML:Hid ((iP l L a).length=l.length):=by show _=_;unfold iP;rw[zR,List.length_set,List.length_replicate]
  have HU0:Hid (vB w w1 w.heap.size (iP l L a) ⟨none,0⟩ ⟨none,0⟩ [] []):=⟨⟨World.ownsRow_nil _ _ _ _,(by intro k hk;cases hk),k1⟩,⟨World.ownsRow_nil _ _ _ _,(by intro k hk;cases hk),k1⟩,(by intro k hk;cases hk),s1,Nat.le_refl _,(by intro e;cases e),(by intro e;cases e)⟩;clear s1 k1;go_wp2
  go_loopg [8,9,11] l.length (fun gk av bv nv wr=>∃(k:Nat) (h1 h2:Hd) (A B:List ByteArray),k<=l.length/\gk=l.length-k/\av=.slice h1.ao A.length h1.cap/\bv=.slice h2.ao B.length h2.cap/\nv=.int .i64 k/\(A.length<=k/\B.length<=k)/\Hid (A=xu l L a k)/\Hid (B=tk l L a k)/\Hid (vB w wr w.heap.size (iP l L a) h1 h2 A B))
  case atStart=>exact⟨0,⟨none,0⟩,⟨none,0⟩,[],[],by omega,rfl,rfl,rfl,rfl,⟨Nat.le_refl _,Nat.le_refl _⟩,rfl,rfl,HU0⟩
  case round =>
   obtain⟨k,h1,h2,A,B,hk,hgk,rfl,rfl,rfl,⟨hAl,hBl⟩,HA,HB,HU⟩:=hrel
   by_cases hlt:k<l.length
   ·have hki:(k:Int)<(l.length:Int):=by omega
    have c0:=HU.out.s.cell k ((iP l L a).getD k false) (by rw[List.getD_eq_getElem?_getD,List.getElem?_eq_getElem (by rw[HML.out];exact hlt)];rfl);have z0:=ac HU.out.s;have HNA:=(show Hid _ from AB l L a k);have HNB:=(show Hid _ from AC l L a k);have HPA:Hid (E7 l L a k=((iP l L a).getD k false&&(cR L k==1))):=rfl;have HPB:Hid (FP l L a k=((iP l L a).getD k false&&((cR L k==2)||(cR L k==3)))):=rfl;have HLB:Hid (eS l k=l[k].label):=by show _=_;unfold eS;rw[List.getD_eq_getElem?_getD,List.getElem?_eq_getElem hlt];rfl
    cases hm:(iP l L a).getD k false
    ·rw[hm]at c0
     rw[hm,Bool.false_and]at HPA HPB;have HA2:Hid (A=xu l L a (k+1)):=by show _=_;rw[HNA.out,HPA.out,if_neg (by simp),List.append_nil];exact HA.out
     have HB2:Hid (B=tk l L a (k+1)):=by show _=_;rw[HNB.out,HPB.out,if_neg (by simp),List.append_nil];exact HB.out
     go_wp2
     go_roundg (l.length-(k+1))
     case measure=>omega
     case rel=>exact⟨k+1,h1,h2,A,B,by omega,rfl,rfl,rfl,by go_num,⟨by omega,by omega⟩,HA2,HB2,HU⟩
    ·rw[hm]at c0
     rw[hm,Bool.true_and]at HPA HPB;have HST:=(show Hid _ from aI b o k l H wr (HR.out.still HU.out.a.kept).recd hlt);have HVK:Hid (∀wx,aa [] wr wx->Calls Tryz.prog 85 #[.pointer (some ⟨b,o,none⟩),.int .i64 k] wx fun e w'=>e=.returned (.int .i64 (cR L k))/\w'=wx):=fun wx kx=>iZ b o k l H g L wx (HR.out.still (HU.out.a.kept.trans kx))
     go_upto_region 11 with (go_at_call 87;refine Calls.mono HST.out ?_;rintro e w5 ⟨rfl,k5⟩;unfold cQ)
     have HU5:Hid (vB w w5 w.heap.size (iP l L a) h1 h2 A B):=HU.out.still k5;have HVK5:=(show Hid _ from HVK.out w5 k5);clear c0 z0 k5 HST HVK HU;generalize l[k].label=lab at *;generalize cR L k=vk at *
     cases e1:(vk==1)
     ·rw[e1]at HPA
      have HA2:Hid (A=xu l L a (k+1)):=by show _=_;rw[HNA.out,HPA.out,if_neg (by simp),List.append_nil];exact HA.out
      cases e2:(vk==2)
      ·cases e3:(vk==3)
       ·rw[e2,e3,Bool.or_self]at HPB
        have HB2:Hid (B=tk l L a (k+1)):=by show _=_;rw[HNB.out,HPB.out,if_neg (by simp),List.append_nil];exact HB.out
        go_wp2_with (go_at_call 85;refine Calls.mono HVK5.out ?_;rintro e w6 ⟨rfl,hw6⟩;rw[hw6];clear hw6)
        go_roundg (l.length-(k+1))
        case measure=>omega
        case rel=>exact⟨k+1,h1,h2,A,B,by omega,rfl,rfl,rfl,by go_num,⟨by omega,by omega⟩,HA2,HB2,HU5⟩
       ·rw[e3,Bool.or_true]at HPB
        have HB2:Hid (B++[lab]=tk l L a (k+1)):=by show _=_;rw[HNB.out,HPB.out,if_pos rfl,HLB.out,<-HB.out]
        have HU6:Hid (vB w (w5.alloc (.cells #[.string lab] 9)) w.heap.size (iP l L a) h1 h2 A B):=HU5.out.still ((aa.refl [] _).alloc _);have hO4:=HU6.out.b.own;go_wp2_with (first | (go_at_call 85;refine Calls.mono HVK5.out ?_;rintro e w6 ⟨rfl,hw6⟩;rw[hw6];clear hw6) | (at_builtin;refine ay _ rfl (.tmp 54) (.tmp 56) 22 rfl i0 (.string ⟨#[]⟩) 16 h2 (am B) Tryz.underlying22 hi hz0 hz1 hz2 rfl Nat.one_pos rfl (by exact hO4) ⟨_,0,none⟩ 1 1 [.string lab] rfl rfl ?d1 ?d2 Nat.one_pos ?d3 ?d4 ?_))
        case d1=>intro j u hj;match j,hj with | 0,hj=>simp at hj;subst hj;simp[Addr.add]
        case d2=>intro u hu;simp at hu;subst hu;rfl
        case d3=>simp only[am];unfold maxLen;omega
        case d4=>simp only[am];omega
        intro g5 cap5 w7 hw7 hgr7 hfresh7;have hsz:(w5.alloc (.cells #[.string lab] 9)).heap.size=w5.heap.size+1:=by simp
        replace hfresh7:h2.blk=some g5∨(w5.alloc (.cells #[.string lab] 9)).heap.size<=g5:=by rw[hsz];exact hfresh7
        rw[bE B lab]at hw7;have HU7:=(show Hid _ from HU6.out.addB (dO.made (c:=cap5) hgr7 hfresh7) hw7);have hEl:Hid ((am B).n+1=(B++[lab]).length):=by show _=_;simp[am]
        rw[hEl.out];clear hgr7 hfresh7 hO4 hw7 hsz;go_wp2
        go_roundg (l.length-(k+1))
        case measure=>omega
        case rel=>exact⟨k+1,h1,⟨some ⟨g5,0,none⟩,cap5⟩,A,B++[lab],by omega,rfl,rfl,rfl,by go_num,⟨by omega,by rw[List.length_append];show _+1<=_;omega⟩,HA2,HB2,HU7⟩
      ·rw[e2,Bool.true_or]at HPB
       have HB2:Hid (B++[lab]=tk l L a (k+1)):=by show _=_;rw[HNB.out,HPB.out,if_pos rfl,HLB.out,<-HB.out]
       have HU6:Hid (vB w (w5.alloc (.cells #[.string lab] 9)) w.heap.size (iP l L a) h1 h2 A B):=HU5.out.still ((aa.refl [] _).alloc _);have hO4:=HU6.out.b.own;go_wp2_with (first | (go_at_call 85;refine Calls.mono HVK5.out ?_;rintro e w6 ⟨rfl,hw6⟩;rw[hw6];clear hw6) | (at_builtin;refine ay _ rfl (.tmp 54) (.tmp 56) 22 rfl i0 (.string ⟨#[]⟩) 16 h2 (am B) Tryz.underlying22 hi hz0 hz1 hz2 rfl Nat.one_pos rfl (by exact hO4) ⟨_,0,none⟩ 1 1 [.string lab] rfl rfl ?d1 ?d2 Nat.one_pos ?d3 ?d4 ?_))
       case d1=>intro j u hj;match j,hj with | 0,hj=>simp at hj;subst hj;simp[Addr.add]
       case d2=>intro u hu;simp at hu;subst hu;rfl
       case d3=>simp only[am];unfold maxLen;omega
       case d4=>simp only[am];omega
       intro g5 cap5 w7 hw7 hgr7 hfresh7;have hsz:(w5.alloc (.cells #[.string lab] 9)).heap.size=w5.heap.size+1:=by simp
       replace hfresh7:h2.blk=some g5∨(w5.alloc (.cells #[.string lab] 9)).heap.size<=g5:=by rw[hsz];exact hfresh7
       rw[bE B lab]at hw7;have HU7:=(show Hid _ from HU6.out.addB (dO.made (c:=cap5) hgr7 hfresh7) hw7);have hEl:Hid ((am B).n+1=(B++[lab]).length):=by show _=_;simp[am]
       rw[hEl.out];clear hgr7 hfresh7 hO4 hw7 hsz;go_wp2
       go_roundg (l.length-(k+1))
       case measure=>omega
       case rel=>exact⟨k+1,h1,⟨some ⟨g5,0,none⟩,cap5⟩,A,B++[lab],by omega,rfl,rfl,rfl,by go_num,⟨by omega,by rw[List.length_append];show _+1<=_;omega⟩,HA2,HB2,HU7⟩
     ·have ev:vk=1:=by simpa using e1
      subst ev;have HB2:Hid (B=tk l L a (k+1)):=by show _=_;rw[HNB.out,HPB.out,if_neg (by decide),List.append_nil];exact HB.out
      have HA2:Hid (A++[lab]=xu l L a (k+1)):=by show _=_;rw[HNA.out,HPA.out,if_pos (by decide),HLB.out,<-HA.out]
      have HU6:Hid (vB w (w5.alloc (.cells #[.string lab] 9)) w.heap.size (iP l L a) h1 h2 A B):=HU5.out.still ((aa.refl [] _).alloc _);have hO4:=HU6.out.a.own;go_wp2_with (first | (go_at_call 85;refine Calls.mono HVK5.out ?_;rintro e w6 ⟨rfl,hw6⟩;rw[hw6];clear hw6) | (at_builtin;refine ay _ rfl (.tmp 47) (.tmp 49) 22 rfl i0 (.string ⟨#[]⟩) 16 h1 (am A) Tryz.underlying22 hi hz0 hz1 hz2 rfl Nat.one_pos rfl (by exact hO4) ⟨_,0,none⟩ 1 1 [.string lab] rfl rfl ?d1 ?d2 Nat.one_pos ?d3 ?d4 ?_))
      case d1=>intro j u hj;match j,hj with | 0,hj=>simp at hj;subst hj;simp[Addr.add]
      case d2=>intro u hu;simp at hu;subst hu;rfl
      case d3=>simp only[am];unfold maxLen;omega
      case d4=>simp only[am];omega
      intro g5 cap5 w7 hw7 hgr7 hfresh7;have hsz:(w5.alloc (.cells #[.string lab] 9)).heap.size=w5.heap.size+1:=by simp
      replace hfresh7:h1.blk=some g5∨(w5.alloc (.cells #[.string lab] 9)).heap.size<=g5:=by rw[hsz];exact hfresh7
      rw[bE A lab]at hw7;have HU7:=(show Hid _ from HU6.out.addA (dO.made (c:=cap5) hgr7 hfresh7) hw7);have hEl:Hid ((am A).n+1=(A++[lab]).length):=by show _=_;simp[am]
      rw[hEl.out];clear hgr7 hfresh7 hO4 hw7 hsz;go_wp2
      go_roundg (l.length-(k+1))
      case measure=>omega
      case rel=>exact⟨k+1,⟨some ⟨g5,0,none⟩,cap5⟩,h2,A++[lab],B,by omega,rfl,rfl,rfl,by go_num,⟨by rw[List.length_append];show _+1<=_;omega,by omega⟩,HA2,HB2,HU7⟩
   ·have hnn:¬(k:Int)<(l.length:Int):=by omega
    have e:k=l.length:=by omega
    subst e;have HEA:Hid (A=(lB l L a).1):=HA.out;have HEB:Hid (B=(lB l L a).2):=HB.out;have HT1:=(show Hid _ from nX h1 A wr HU.out.a.own (by omega));have HT2:Hid (∀w6,aa [] wr w6->Calls Tryz.prog 88 #[.slice h2.ao B.length h2.cap] w6 fun e w'=>∃bo:Option Nat,e=.returned (.slice (FN bo) B.length B.length)/\qC w' bo B/\(∀q,bo=some q->w6.heap.size<=q)/\aa [] w6 w'):=fun w6 k6=>nX h2 B w6 (HU.out.b.own.still k6) (by omega)
    have HKr:Hid (aa [] w wr):=HU.out.a.kept;clear HU HA HB;go_wp2_with (first | (go_at_call 88;refine Calls.mono HT1.out ?_;rintro e w6 ⟨b1,rfl,x1,n1,k1⟩;have HX1:Hid (qC w6 b1 A/\(∀q,b1=some q->wr.heap.size<=q)/\aa [] wr w6):=⟨x1,n1,k1⟩;have HT3:=(show Hid _ from HT2.out w6 k1);clear HT1 HT2 x1 n1 k1) | (go_at_call 88;refine Calls.mono HT3.out ?_;rintro e w7 ⟨b2,rfl,x2,n2,k2⟩));go_ret3;rw[<-HEA.out,<-HEB.out];obtain⟨x1,n1,k1⟩:=HX1.out;have hs0:=HKr.out.size;have hs1:=k1.size;refine⟨b1,b2,rfl,(GE x1 k2),x2,(fun q e=>Nat.le_trans hs0 (n1 q e)),(fun q e=>by have:=n2 q e;omega),(fun q e e2=>?_),(HKr.out.trans k1).trans k2⟩;have h8:=n2 q e2;have h9:=ac (x1.blk q e);omega
end
theorem dP.repAt{w:World}{x:Nat}{fs:Fs}{l:List St}{H:Nat->Hd}{g:Nat}(h:dP w x fs l H g):eR w x 10 l H g (aK l l.length) :=
 ⟨h.recd,h.tellA.cell,h.tellA.arr⟩
theorem EP(c:Int)(w w':World)(k:aa [] w w'):Dv [] [] c w (.returned (.tuple #[.slice none 0 0,.slice none 0 0,.int .i64 c])) w' :=
 ⟨none,none,rfl,⟨⟨fun _=>rfl,fun _=>rfl⟩,fun b e=>by cases e⟩,⟨⟨fun _=>rfl,fun _=>rfl⟩,fun b e=>by cases e⟩,(fun q e=>by cases e),(fun q e=>by cases e),(fun q e=>by cases e),k⟩
def r6(l:List St)(lab:ByteArray):(List ByteArray×List ByteArray)×Int:=match ey l lab with
 | none=>(([],[]),8)
 | some n=>if((cR (aK l l.length) n==2)||(cR (aK l l.length) n==3))=true then(([],[]),9) else(lB l (aK l l.length) n,0)
theorem Dv.base{A B:List ByteArray}{c:Int}{w w1 w':World}{e:Ending}(h:Dv A B c w1 e w')(k:aa [] w w1):Dv A B c w e w':=by
 obtain⟨b1,b2,h1,h2,h3,h4,h5,h6,h7⟩:=h;have:=k.size;exact⟨b1,b2,h1,h2,h3,(fun q e=>by have:=h4 q e;omega),(fun q e=>by have:=h5 q e;omega),h6,k.trans h7⟩
theorem AN(x:Nat)(fs:Fs)(l:List St)(H:Nat->Hd)(g:Nat)(lab:ByteArray)(w:World)(h:dP w x fs l H g)(ok:db l)(okp:∀n (hn:n<l.length),iQ l[n]) :
  Calls Tryz.prog 34 #[.pointer (some ⟨x,0,none⟩),.string lab] w fun e w'=>Dv (r6 l lab).1.1 (r6 l lab).1.2 (r6 l lab).2 w e w':=by
 have hlen:=ok.len;have VF:=rS x fs l H g lab w h (by omega);have hxw:=bz.lt (Classical.choose_spec (Classical.choose_spec (Classical.choose_spec h.ver)));unfold r6
 cases hf:ey l lab with
 | none =>
  rw[hf]at VF;have HVF:=(show Hid _ from VF);clear VF h okp;go_enter Tryz.func34,Tryz.ntmps34;go_wp2_with (go_at_call 68;refine Calls.mono HVF.out ?_;rintro e w1 ⟨rfl,k1⟩);go_ret3;exact EP 8 w _ k1
 | some n =>
  rw[hf]at VF;obtain⟨hn,ha,-⟩:=tR hf;have HVF:=(show Hid _ from VF)
  have HUS:Hid (∀w1,aa [] w w1->Calls Tryz.prog 69 #[.pointer (some ⟨x,10,none⟩),.int .i64 n] w1 fun e w'=>Dv (if((cR (aK l l.length) n==2)||(cR (aK l l.length) n==3))=true then((([],[]),9):(List ByteArray×List ByteArray)×Int) else(lB l (aK l l.length) n,0)).1.1 (if((cR (aK l l.length) n==2)||(cR (aK l l.length) n==3))=true then((([],[]),9):(List ByteArray×List ByteArray)×Int) else(lB l (aK l l.length) n,0)).1.2 (if((cR (aK l l.length) n==2)||(cR (aK l l.length) n==3))=true then((([],[]),9):(List ByteArray×List ByteArray)×Int) else(lB l (aK l l.length) n,0)).2 w1 e w'):=fun w1 k1=>by
   refine(zQ x 10 n l H g (aK l l.length) w1 (h.still k1).repAt ok hn okp).mono (fun e w' q=>?_)
   split at q
   ·next hh=>rw[if_pos hh];exact q
   ·next hh=>rw[if_neg hh];exact q
  have HXZ:Hid (∀w1,aa [] w w1->x<w1.heap.size):=fun w1 k1=>Nat.lt_of_lt_of_le hxw k1.size
  clear VF h okp;simp only;generalize (if((cR (aK l l.length) n==2)||(cR (aK l l.length) n==3))=true then((([],[]),9):(List ByteArray×List ByteArray)×Int) else(lB l (aK l l.length) n,0))=R at *;obtain⟨⟨A,B⟩,c⟩:=R;simp only at HUS ⊢;go_enter Tryz.func34,Tryz.ntmps34
  go_upto_region 4 with (go_at_call 68;refine Calls.mono HVF.out ?_;rintro e w1 ⟨rfl,k1⟩)
  have hx1:=HXZ.out w1 k1;have HU1:=(show Hid _ from HUS.out w1 k1);have HK1:=(show Hid _ from k1);clear k1;go_wp2_with (go_at_call 69;refine Calls.mono HU1.out ?_;rintro e w2 ⟨b1,b2,rfl,x1,x2,x3,x4,x5,x6⟩);go_ret3;exact Dv.base ⟨b1,b2,rfl,x1,x2,x3,x4,x5,x6⟩ HK1.out
end Go.Proofs.YtlbhbocbakijbaaGreat

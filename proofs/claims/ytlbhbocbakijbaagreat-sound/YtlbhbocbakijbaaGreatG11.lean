import Derived.BigQuiet
import Derived.Test.YtlbhbocbakijbaaGreatG10
namespace Go.Proofs.YtlbhbocbakijbaaGreat
open Go.RowKit
set_option maxHeartbeats 0
section
structure db(l:List St):Prop where
 len:l.length<=10000
 pos:∀i (h:i<l.length),0<l[i].symbols.length
 syms:∀i (h:i<l.length),l[i].symbols.length<=10000
 prfs:∀i (h:i<l.length),l[i].proof.length<=10000
theorem aa.grown{w wr w1:World}{b:Option Nat}(K:aa [] w wr)(g:wr.grownBy w1 b)(hb:∀k,b=some k->w.heap.size<=k):aa [] w w1 :=
 ⟨g.os.trans K.os,g.tape.trans K.tape,g.output.trans K.output,Nat.le_trans K.size g.size,fun k hk _=>(g.block k (Nat.lt_of_lt_of_le hk K.size) (fun e=>by have:=hb k e.symm;omega)).trans (K.block k hk (by simp))⟩
theorem oP(w:World)(k l c u:Int)(lab f:ByteArray)(a1 a2:Option Addr)(n1 c1 n2 c2:Nat) :
  (Instr.field 144 (.agg #[.int .i64 k,.string lab,.slice a1 n1 c1,.slice a2 n2 c2,.string f,.int .i64 l,.int .i64 c,.int .i64 u]) 2).run Tryz.prog w=.ok (.slice a1 n1 c1) w:=by kernel_rfl
attribute [local go_sem] oP
def oc(l:List St)(a n:Nat):Bool:=match l[n]? with | some s=>(s.kind==3)&&b7 l n a | none=>false
theorem Fh(l:List St)(a n:Nat)(h:n<l.length):oc l a n=((l[n].kind==3)&&b7 l n a):=by
 unfold oc;rw[List.getElem?_eq_getElem h]
def cO(l:List St)(a k:Nat):List ByteArray:=bS l a++((List.range k).filter (oc l a)).flatMap (bS l)
def cc(l:List St)(a:Nat):List ByteArray:=cO l a l.length
theorem jr(l:List St)(n:Nat)(h:n<l.length):bS l n=l[n].symbols:=by
 unfold bS;rw[List.getElem?_eq_getElem h]
theorem nW(l:List St)(a:Nat):cO l a 0=bS l a:=by unfold cO;rw[List.range_zero];rw[List.filter_nil,List.flatMap_nil,List.append_nil]
theorem qj(l:List St)(a k:Nat)(h:oc l a k=true):cO l a (k+1)=cO l a k++bS l k:=by
 unfold cO;rw[List.range_succ,List.filter_append];simp[h]
theorem nC(l:List St)(a k:Nat)(h:oc l a k=false):cO l a (k+1)=cO l a k:=by
 unfold cO;rw[List.range_succ,List.filter_append];simp[h]
theorem qi(l:List St)(a k:Nat)(ok:db l)(ha:a<l.length)(hk:k<=l.length):(cO l a k).length<=10000+k*10000:=by
 induction k with
 | zero =>
  have:=ok.syms a ha;have e:=congrArg List.length (nW l a);have e2:=congrArg List.length (jr l a ha);omega
 | succ k ih =>
  have:=ih (by omega)
  cases h:oc l a k with
  | true =>
   have e:=congrArg List.length (qj l a k h);have e2:=congrArg List.length (jr l k (by omega));have:=ok.syms k (by omega);rw[List.length_append]at e;omega
  | false =>
   have e:=congrArg List.length (nC l a k h);omega
set_option maxRecDepth 100000 in
theorem qL(b o a:Nat)(l:List St)(H:Nat->Hd)(w:World)(h:bZ w b o l H)(ha:a<l.length)(ok:db l) :
  Calls Tryz.prog 124 #[.pointer (some ⟨b,o,none⟩),.int .i64 a] w fun e w'=>∃hd:Hd,e=.returned (.slice hd.ao (cc l a).length hd.cap)/\au w' hd (am (cc l a))/\(∀k,hd.blk=some k->w.heap.size<=k)/\aa [] w w':=by
 obtain⟨i0,hi,hz0,hz1,hz2⟩:=info_parts dp;have hlen:=ok.len;have hbw:=h.lt;go_enter Tryz.func124,Tryz.ntmps124;go_wp2_with fail;refine(aI b o a l H _ h ha).mono ?_;rintro e w1 ⟨rfl,hk1⟩;have h1:=h.still hk1;have O1:=h1.sts.syms a l[a] (List.getElem?_eq_getElem ha);have hp:=ok.pos a ha;have hm:=ok.syms a ha
 rcases O1.ways with ⟨_,h0,_⟩ | ⟨g1,cur1,e1,-⟩
 ·have:l[a].symbols.length=0:=h0
  omega
 ·unfold cQ
  rw[e1];have hsrc:Hid (∀j u,(strs l[a].symbols)[j]?=some u->w1.cell? ((⟨g1,0,none⟩:Addr).add j)=some u):=fun j u hj=>by rw[aV];exact O1.cell e1 j u hj
  have ES:Hid (cO l a 0=l[a].symbols):=by show _=_;rw[nW];exact jr l a ha
  have HO:Hid (au w1 ⟨none,0⟩ (am [])):=World.ownsRow_nil _ _ _ _;clear O1;go_wp2_with (at_builtin;refine ay _ rfl (.tmp 8) (.tmp 12) 22 rfl i0 (.string ⟨#[]⟩) 16 ⟨none,0⟩ (am []) Tryz.underlying22 hi hz0 hz1 hz2 rfl Nat.one_pos rfl HO.out ⟨g1,0,none⟩ l[a].symbols.length (H (10+2*a)).cap (strs l[a].symbols) rfl ?c0 hsrc.out (jq _) hp ?c3 ?c4 ?_)
  case c0=>simp[strs,am]
  case c3=>simp only[am,List.length_nil];unfold maxLen;omega
  case c4=>simp only[am,List.length_nil];omega
  intro g cap' w2 hw2 hgr hfresh;rw[lg [] l[a].symbols,List.nil_append,<-ES.out]at hw2;have hK2:aa [] w w2:=hk1.grown hgr (by simp[Hd.blk])
  have hg2:w.heap.size<=g:=by
   rcases hfresh with e | e
   ·simp[Hd.blk]at e
   ·exact Nat.le_trans hk1.size e
  have hEl:Hid ((am []).n+l[a].symbols.length=(cO l a 0).length):=by show _=_;rw[ES.out];simp[am]
  rw[hEl.out];clear hsrc HO hgr hfresh h1 hk1 e1 hp hm hEl ES;go_wp2
  go_loopg [5,6] l.length (fun gk sv i wr=>∃(k:Nat) (hd:Hd),k<=l.length/\gk=l.length-k/\i=.int .i64 k/\sv=.slice hd.ao (cO l a k).length hd.cap/\au wr hd (am (cO l a k))/\(∀x,hd.blk=some x->w.heap.size<=x)/\aa [] w wr)
  case atStart=>exact⟨0,⟨some ⟨g,0,none⟩,cap'⟩,by omega,by omega,rfl,rfl,hw2,by intro x hx;simp[Hd.blk]at hx;omega,hK2⟩
  case round =>
   obtain⟨k,hd,hk,hg,rfl,rfl,hO,hN,hK⟩:=hrel;have hr:=h.still hK;clear hw2 hK2
   by_cases hlt:k<l.length
   ·have hsl:=qi l a k ok ha (by omega)
    have HES:=(show Hid _ from Fh l a k hlt);have hsk:=ok.syms k hlt;have hpk:=ok.pos k hlt;have OK':=hr.sts.syms k l[k] (List.getElem?_eq_getElem hlt)
    rcases OK'.ways with ⟨_,h0,_⟩ | ⟨gk',curk,ek,-⟩
    ·have:l[k].symbols.length=0:=h0
     omega
    ·have SY:Hid (bS l k=l[k].symbols):=jr l k hlt
     cases hkd:(l[k].kind==3)
     ·have HT:Hid (cO l a (k+1)=cO l a k):=nC l a k (by rw[HES.out,hkd];rfl)
      clear HES OK';go_wp2_with (first | (go_at_call 77;refine(cL b o l H _ (by exact hr)).mono ?_;rintro e w3 ⟨rfl,rfl⟩) | (go_at_call 87;refine(aI b o k l H _ (by exact hr) hlt).mono ?_;rintro e w3 ⟨rfl,hk3⟩;unfold cQ))
      go_roundg (l.length-(k+1))
      case measure=>omega
      case rel=>exact⟨k+1,hd,by omega,rfl,by go_num,by rw[HT.out],by rw[HT.out];exact hO.moved (fun x hx=>(hk3.trans ((aa.refl [] _).alloc _)).block x (hO.lt hx) (by simp)),hN,(hK.trans hk3).alloc _⟩
     ·go_wp2_with (first | (go_at_call 77;refine(cL b o l H _ (by exact hr)).mono ?_;rintro e wc ⟨rfl,rfl⟩) | (go_at_call 87;refine(aI b o k l H _ (by exact hr) hlt).mono ?_;rintro e w3 ⟨rfl,hk3⟩;unfold cQ))
      obtain⟨W4,hW4⟩:∃W4,W4=w3.alloc (.cells #[.int .i64 l[k].kind,.string l[k].label,.slice (some ⟨gk',0,none⟩) l[k].symbols.length (H (10+2*k)).cap,.slice (H (11+2*k)).ao l[k].proof.length (H (11+2*k)).cap,.string l[k].fin.file,.int .i64 l[k].fin.line,.int .i64 l[k].fin.col,.int .i64 l[k].til] 144):=⟨_,rfl⟩
      rw[<-hW4];have k4:aa [] wc W4:=by rw[hW4];exact hk3.alloc _
      have B4:W4.heap[w3.heap.size]?=some (.cells #[.int .i64 l[k].kind,.string l[k].label,.slice (some ⟨gk',0,none⟩) l[k].symbols.length (H (10+2*k)).cap,.slice (H (11+2*k)).ao l[k].proof.length (H (11+2*k)).cap,.string l[k].fin.file,.int .i64 l[k].fin.line,.int .i64 l[k].fin.col,.int .i64 l[k].til] 144 (0,0)):=by rw[hW4];exact heap_alloc_new _ _
      have q2:W4.cell? ⟨w3.heap.size,2,none⟩=some (.slice (some ⟨gk',0,none⟩) l[k].symbols.length (H (10+2*k)).cap):=by rw[ab B4];rfl
      have hr4:=hr.still k4;have hO4:au W4 hd (am (cO l a k)):=hO.moved (fun x hx=>k4.block x (hO.lt hx) (by simp));have OK4:=hr4.sts.syms k l[k] (List.getElem?_eq_getElem hlt);have hK4:=hK.trans k4;have hsrc:Hid (∀j u,(strs l[k].symbols)[j]?=some u->W4.cell? ((⟨gk',0,none⟩:Addr).add j)=some u):=fun j u hj=>by rw[aV];exact OK4.cell ek j u hj
      clear hW4 hk3 k4 B4 hr hO OK' OK4 hK
      cases hh:b7 l k a
      ·have HT:Hid (cO l a (k+1)=cO l a k):=nC l a k (by rw[HES.out,hh];simp)
       clear HES;go_wp2_with (go_at_call 125;refine(dV b o k a l H _ (by exact hr4) hlt).mono ?_;rintro e w5 ⟨rfl,rfl⟩)
       go_roundg (l.length-(k+1))
       case measure=>omega
       case rel=>exact⟨k+1,hd,by omega,rfl,by go_num,by rw[HT.out],by rw[HT.out];exact hO4,hN,hK4⟩
      ·have HT:Hid (cO l a (k+1)=cO l a k++l[k].symbols):=by show _=_;rw[qj l a k (by rw[HES.out,hkd,hh];rfl),SY.out]
       clear HES SY;go_wp2_with (first | (go_at_call 125;refine(dV b o k a l H _ (by exact hr4) hlt).mono ?_;rintro e w5 ⟨rfl,rfl⟩) | (at_builtin;refine ay _ rfl (.tmp 32) (.tmp 34) 22 rfl i0 (.string ⟨#[]⟩) 16 hd (am (cO l a k)) Tryz.underlying22 hi hz0 hz1 hz2 rfl Nat.one_pos rfl (by exact hO4) ⟨gk',0,none⟩ l[k].symbols.length (H (10+2*k)).cap (strs l[k].symbols) rfl ?d0 hsrc.out (jq _) hpk ?d3 ?d4 ?_))
       case d0=>simp[strs,am]
       case d3=>simp only[am];unfold maxLen;omega
       case d4=>simp only[am];omega
       intro g5 cap5 w5 hw5 hgr5 hfresh5;rw[lg (cO l a k) l[k].symbols,<-HT.out]at hw5;have hK5:=hK4.grown hgr5 hN
       have hg5:w.heap.size<=g5:=by
        rcases hfresh5 with e | e
        ·exact hN g5 e
        ·exact Nat.le_trans hK4.size e
       have hEl:Hid ((am (cO l a k)).n+l[k].symbols.length=(cO l a (k+1)).length):=by show _=_;rw[HT.out];simp[am]
       rw[hEl.out];clear hsrc hgr5 hfresh5 q2 hO4;go_wp2
       go_roundg (l.length-(k+1))
       case measure=>omega
       case rel=>exact⟨k+1,⟨some ⟨g5,0,none⟩,cap5⟩,by omega,rfl,by go_num,rfl,hw5,by intro x hx;simp[Hd.blk]at hx;omega,hK5⟩
   ·have e:k=l.length:=by omega
    subst e;go_wp2_with (go_at_call 77;refine(cL b o l H _ (by exact hr)).mono ?_;rintro e w3 ⟨rfl,rfl⟩);go_ret;exact⟨hd,rfl,hO,hN,hK⟩
end
def gn(l:List St)(syms:List ByteArray)(a n:Nat):Bool:=match l[n]? with | some s=>b7 l n a&&jR s syms | none=>false
theorem zx(l:List St)(syms:List ByteArray)(a n:Nat)(h:n<l.length):gn l syms a n=(b7 l n a&&jR l[n] syms):=by
 unfold gn;rw[List.getElem?_eq_getElem h]
def cd(l:List St)(a k:Nat):List Nat:=(List.range k).filter (gn l (cc l a) a)
def aq(l:List St)(a:Nat):List Nat:=cd l a l.length
theorem oZ(l:List St)(a k:Nat)(h:gn l (cc l a) a k=true):cd l a (k+1)=cd l a k++[k]:=by
 unfold cd;rw[List.range_succ,List.filter_append];simp[h]
theorem m9(l:List St)(a k:Nat)(h:gn l (cc l a) a k=false):cd l a (k+1)=cd l a k:=by
 unfold cd;rw[List.range_succ,List.filter_append];simp[h]
theorem jz(l:List St)(a k:Nat):(cd l a k).length<=k:=by
 unfold cd;have:=List.length_filter_le (gn l (cc l a) a) (List.range k);simpa using this
theorem xm(l:List St)(a:Nat)(ok:db l)(ha:a<l.length):(cc l a).length<=1073741824:=by
 have h1:=qi l a l.length ok ha (Nat.le_refl _);have h2:=ok.len;have h3:l.length*10000<=10000*10000:=Nat.mul_le_mul_right _ h2;unfold cc;omega
set_option maxRecDepth 100000 in
theorem iw(b o a:Nat)(l:List St)(H:Nat->Hd)(w:World)(h:bZ w b o l H)(ha:a<l.length)(ok:db l) :
  Calls Tryz.prog 109 #[.pointer (some ⟨b,o,none⟩),.int .i64 a] w fun e w'=>∃hd:Hd,e=.returned (.slice hd.ao (aq l a).length hd.cap)/\au w' hd (aP (aq l a))/\(∀k,hd.blk=some k->w.heap.size<=k)/\aa [] w w':=by
 obtain⟨i0,hi,hz0,hz1,hz2⟩:=info_parts fU;have hlen:=ok.len;have hbw:=h.lt;have hsyl:=xm l a ok ha;go_enter Tryz.func109,Tryz.ntmps109;go_wp2_with fail;refine(qL b o a l H _ h ha ok).mono ?_;rintro e w1 ⟨hy,rfl,hOy,hNy,hk1⟩;go_wp2
 go_loopg [5,7] l.length (fun gk sv i wr=>∃(k:Nat) (hd:Hd),k<=l.length/\gk=l.length-k/\i=.int .i64 k/\sv=.slice hd.ao (cd l a k).length hd.cap/\au wr hd (aP (cd l a k))/\(∀x,hd.blk=some x->w1.heap.size<=x)/\aa [] w1 wr)
 case atStart=>exact⟨0,⟨none,0⟩,by omega,by omega,rfl,rfl,World.ownsRow_nil _ _ _ _,by intro x hx;simp[Hd.blk]at hx,aa.refl _ _⟩
 case round =>
  obtain⟨k,hd,hk,hg,rfl,rfl,hO,hN,hK⟩:=hrel;have hr:=(h.still hk1).still hK;have hVy:bH wr hy (cc l a):=(hOy.view).still hK;have hhl:=jz l a k
  by_cases hlt:k<l.length
  ·have HM:=(show Hid _ from zx l (cc l a) a k hlt)
   have hsk:=ok.syms k hlt;have hVk:=(hr.sts.syms k l[k] (List.getElem?_eq_getElem hlt)).view
   cases hh:b7 l k a
   ·have HT:Hid (cd l a (k+1)=cd l a k):=m9 l a k (by rw[HM.out,hh];rfl)
    clear HM hVk hVy;go_wp2_with (first | (go_at_call 77;refine(cL b o l H _ (by exact hr)).mono ?_;rintro e wc ⟨rfl,rfl⟩) | (go_at_call 125;refine(dV b o k a l H _ (by exact hr) hlt).mono ?_;rintro e wd ⟨rfl,rfl⟩))
    go_roundg (l.length-(k+1))
    case measure=>omega
    case rel=>exact⟨k+1,hd,by omega,rfl,by go_num,by rw[HT.out],by rw[HT.out];exact hO,hN,hK⟩
   ·have ME:=fun(w':World) (v1:bH w' (H (10+2*k)) l[k].symbols) (v2:bH w' hy (cc l a))=>og l[k] (H (10+2*k)) (H (11+2*k)) hy (cc l a) w' v1 v2 (by omega) hsyl
    have HME:=(show Hid _ from ME);clear ME
    cases hm:jR l[k] (cc l a)
    ·have HT:Hid (cd l a (k+1)=cd l a k):=m9 l a k (by rw[HM.out,hm];simp)
     rw[hm]at HME;clear HM;go_wp2_with (first | (go_at_call 77;refine(cL b o l H _ (by exact hr)).mono ?_;rintro e wc ⟨rfl,rfl⟩) | (go_at_call 125;refine(dV b o k a l H _ (by exact hr) hlt).mono ?_;rintro e wd ⟨rfl,rfl⟩) | (go_at_call 87;refine(aI b o k l H _ (by exact hr) hlt).mono ?_;rintro e w3 ⟨rfl,hk3⟩) | (go_at_call 126;refine(HME.out _ (by exact hVk.still hk3) (by exact hVy.still hk3)).mono ?_;rintro e w4 ⟨rfl,hk4⟩))
     go_roundg (l.length-(k+1))
     case measure=>omega
     case rel=>exact⟨k+1,hd,by omega,rfl,by go_num,by rw[HT.out],by rw[HT.out];exact hO.moved (fun x hx=>(hk3.trans hk4).block x (hO.lt hx) (by simp)),hN,(hK.trans hk3).trans hk4⟩
    ·have HT:Hid (cd l a (k+1)=cd l a k++[k]):=oZ l a k (by rw[HM.out,hh,hm];rfl)
     rw[hm]at HME;clear HM;go_wp2_with (first | (go_at_call 77;refine(cL b o l H _ (by exact hr)).mono ?_;rintro e wc ⟨rfl,rfl⟩) | (go_at_call 125;refine(dV b o k a l H _ (by exact hr) hlt).mono ?_;rintro e wd ⟨rfl,rfl⟩) | (go_at_call 87;refine(aI b o k l H _ (by exact hr) hlt).mono ?_;rintro e w3 ⟨rfl,hk3⟩) | (go_at_call 126;refine(HME.out _ (by exact hVk.still hk3) (by exact hVy.still hk3)).mono ?_;rintro e w4 ⟨rfl,hk4⟩;have hO4:=hO.moved (fun x hx=>((hk3.trans hk4).alloc (.cells #[.int .i64 k] 3)).block x (hO.lt hx) (by simp))) | (at_builtin;refine ay _ rfl (.tmp 28) (.tmp 30) 33 rfl i0 (.int .i64 0) 8 hd (aP (cd l a k)) Tryz.underlying33 hi hz0 hz1 hz2 rfl Nat.one_pos rfl (by exact hO4) ⟨_,0,none⟩ 1 1 [.int .i64 k] rfl rfl ?d1 ?d2 Nat.one_pos ?d3 ?d4 ?_))
     case d1=>intro j u hj;match j,hj with | 0,hj=>simp at hj;subst hj;simp[Addr.add]
     case d2=>intro u hu;simp at hu;subst hu;rfl
     case d3=>simp only[aP];unfold maxLen;omega
     case d4=>simp only[aP];omega
     intro g5 cap5 w5 hw5 hgr5 hfresh5;rw[gL (cd l a k) k,<-HT.out]at hw5;have hK4:=((hK.trans hk3).trans hk4).alloc (.cells #[.int .i64 k] 3);have hK5:=hK4.grown hgr5 hN
     have hg5:w1.heap.size<=g5:=by
      rcases hfresh5 with e | e
      ·exact hN g5 e
      ·have:=hK4.size;simp at e this;omega
     have hEl:Hid ((aP (cd l a k)).n+1=(cd l a (k+1)).length):=by show _=_;rw[HT.out];simp[aP]
     rw[hEl.out];clear hgr5 hfresh5 hO4;go_wp2
     go_roundg (l.length-(k+1))
     case measure=>omega
     case rel=>exact⟨k+1,⟨some ⟨g5,0,none⟩,cap5⟩,by omega,rfl,by go_num,rfl,hw5,by intro x hx;simp[Hd.blk]at hx;omega,hK5⟩
  ·have e:k=l.length:=by omega
   subst e;have hK':=hk1.trans hK;have hs1:=hk1.size;go_wp2_with (go_at_call 77;refine(cL b o l H _ (by exact hr)).mono ?_;rintro e w3 ⟨rfl,rfl⟩);go_ret;exact⟨hd,rfl,hO,fun x hx=>Nat.le_trans hs1 (hN x hx),hK'⟩
theorem E1:(Tryz.prog.info? 33).map (fun i=>(i.zero,i.size,i.bytes))=some (some (.slice none 0 0),1,24):=by kernel_rfl
theorem sG(v:Value)(n i:Nat)(h:i<n):(madeCells #[v] n)[i]?=some v:=by
 simp[madeCells,h,Nat.mod_one]
def dW(l:List St)(n:Nat):Bool:=match l[n]? with | some s=>jt s.kind | none=>false
theorem yd(l:List St)(n:Nat)(h:n<l.length):dW l n=jt l[n].kind:=by
 unfold dW;rw[List.getElem?_eq_getElem h]
def gV(l:List St)(k n:Nat):List Nat:=if n<k/\dW l n=true then aq l n else []
structure ed(w:World)(g:Nat)(l:List St)(k:Nat)(K:Nat->Hd):Prop where
 arr:∃arr,w.heap[g]?=some (.cells arr 33 (0,0))/\arr.size=l.length/\∀n,n<l.length->arr[n]?=some (.slice (K n).ao (gV l k n).length (K n).cap)
 own:∀n,n<l.length->au w (K n) (aP (gV l k n))
 off:∀n,(K n).blk≠some g
theorem ed.kept{w w':World}{g:Nat}{l:List St}{k:Nat}{K:Nat->Hd}{S:List Nat}(h:ed w g l k K)(q:aa S w w')(hg:g∉S)(hK:∀n x,(K n).blk=some x->x∉S):ed w' g l k K:=by
 obtain⟨arr,h1,h2,h3⟩:=h.arr;exact⟨⟨arr,q.get h1 hg,h2,h3⟩,fun n hn=>(h.own n hn).moved (fun x hx=>q.block x ((h.own n hn).lt hx) (hK n x hx)),h.off⟩
theorem ed.still{w w':World}{g:Nat}{l:List St}{k:Nat}{K:Nat->Hd}(h:ed w g l k K)(q:aa [] w w'):ed w' g l k K:=h.kept q (by simp) (by simp)
theorem ed.cell{w:World}{g:Nat}{l:List St}{k:Nat}{K:Nat->Hd}(h:ed w g l k K)(n:Nat)(hn:n<l.length):w.cell? ⟨g,n,none⟩=some (.slice (K n).ao (gV l k n).length (K n).cap):=by
 obtain⟨arr,h1,h2,h3⟩:=h.arr;rw[ab h1];exact h3 n hn
theorem ed.free{w:World}{g:Nat}{l:List St}{k:Nat}{K:Nat->Hd}(h:ed w g l k K)(n:Nat):w.frozen? ⟨g,n,none⟩=false:=by
 obtain⟨arr,h1,h2,h3⟩:=h.arr;exact an h1 n
theorem ed.lt{w:World}{g:Nat}{l:List St}{k:Nat}{K:Nat->Hd}(h:ed w g l k K):g<w.heap.size:=by
 obtain⟨arr,h1,h2,h3⟩:=h.arr;exact ac h1
theorem ed.skip{w:World}{g:Nat}{l:List St}{k:Nat}{K:Nat->Hd}(h:ed w g l k K)(hk:dW l k=false):ed w g l (k+1) K:=by
 have e:∀n,gV l (k+1) n=gV l k n:=by
  intro n;unfold gV
  by_cases en:n=k
  ·subst en;rw[if_neg (by rw[hk];simp),if_neg (by rw[hk];simp)]
  ·have:(n<k+1/\dW l n=true) ↔ (n<k/\dW l n=true):=and_congr_left (fun _=>by omega)
   simp only[this]
 obtain⟨arr,h1,h2,h3⟩:=h.arr;exact⟨⟨arr,h1,h2,fun n hn=>by rw[e];exact h3 n hn⟩,fun n hn=>by rw[e];exact h.own n hn,h.off⟩
theorem ed.store{w:World}{g:Nat}{l:List St}{k:Nat}{K:Nat->Hd}(h:ed w g l k K)(hk:dW l k=true)(hkl:k<l.length)(hd:Hd)(o:au w hd (aP (aq l k)))(hg:hd.blk≠some g) :
  ed (w.setCell ⟨g,k,none⟩ (.slice hd.ao (aq l k).length hd.cap)) g l (k+1) (cG K k hd):=by
 have e:∀n,n≠k->gV l (k+1) n=gV l k n:=by
  intro n en;unfold gV;have:(n<k+1/\dW l n=true) ↔ (n<k/\dW l n=true):=and_congr_left (fun _=>by omega);simp only[this]
 have ek:gV l (k+1) k=aq l k:=by unfold gV;rw[if_pos ⟨by omega,hk⟩]
 obtain⟨arr,h1,h2,h3⟩:=h.arr;refine⟨⟨_,ae h1 _ _,by simpa using h2,?_⟩,?_,?_⟩
 ·intro n hn
  by_cases en:n=k
  ·subst en
   rw[bN,ek];simp[h2,hn]
  ·rw[bd _ _ _ _ en,e n en]
   rw[Array.getElem?_setIfInBounds_ne (by omega)];exact h3 n hn
 ·intro n hn
  by_cases en:n=k
  ·subst en
   rw[bN,ek];exact o.moved (fun x hx=>Below.heap_setCell _ _ _ _ (by rintro rfl;exact hg hx))
  ·rw[bd _ _ _ _ en,e n en]
   exact(h.own n hn).moved (fun x hx=>Below.heap_setCell _ _ _ _ (by rintro rfl;exact h.off n hx))
 ·intro n
  by_cases en:n=k
  ·subst en;rw[bN];exact hg
  ·rw[bd _ _ _ _ en];exact h.off n
set_option maxRecDepth 100000 in
theorem lZ(b o:Nat)(l:List St)(H:Nat->Hd)(w:World)(h:bZ w b o l H)(ok:db l) :
  Calls Tryz.prog 93 #[.pointer (some ⟨b,o,none⟩)] w fun e w'=>∃(g:Nat) (K:Nat->Hd),e=.returned (.slice (some ⟨g,0,none⟩) l.length l.length)/\ed w' g l l.length K/\w.heap.size<=g/\(∀n x,(K n).blk=some x->w.heap.size<=x)/\aa [] w w':=by
 obtain⟨i0,hi,hz0,hz1,hz2⟩:=info_parts E1;have hlen:=ok.len;have hbw:=h.lt;have m1:=fun w=>cA (P:=Tryz.prog) w 160 33 i0 _ Tryz.underlying160 hi hz0 l.length 1 hz1 (by rw[hz2];omega) (by omega)
 obtain⟨mc,hmc⟩:∃mc,mc=madeCells (Value.slice none 0 0).cells (l.length*1):=⟨_,rfl⟩
 rw[<-hmc]at m1
 have A0:Hid (ed (w.alloc (.cells mc 33)) w.heap.size l 0 gu):=by
  refine⟨⟨mc,heap_alloc_new _ _,by rw[hmc,size_madeCells];omega,?_⟩,?_,fun n e=>by simp[gu,Hd.blk]at e⟩
  ·intro n hn
   have e:gV l 0 n=[]:=by unfold gV;rw[if_neg (by omega)]
   rw[e,hmc];exact sG _ _ _ (by omega)
  ·intro n hn
   have e:gV l 0 n=[]:=by unfold gV;rw[if_neg (by omega)]
   rw[e];exact World.ownsRow_nil _ _ _ _
 clear hmc;go_enter Tryz.func93,Tryz.ntmps93;go_wp2_with (go_at_call 77;refine(cL b o l H _ (by exact h)).mono ?_;rintro e wc ⟨rfl,hwc⟩;rw[hwc])
 go_loopg [4] l.length (fun gk i wr=>∃(k:Nat) (K:Nat->Hd),k<=l.length/\gk=l.length-k/\i=.int .i64 k/\ed wr w.heap.size l k K/\(∀n x,(K n).blk=some x->w.heap.size<=x)/\aa [] w wr)
 case atStart=>exact⟨0,gu,by omega,by omega,rfl,A0.out,fun n x hx=>by simp[gu,Hd.blk]at hx,(aa.refl _ _).alloc _⟩
 case round =>
  obtain⟨k,K,hk,hg,rfl,hA,hN,hK⟩:=hrel;have hr:=h.still hK;clear A0 m1
  by_cases hlt:k<l.length
  ·have HI:=(show Hid _ from yd l k hlt)
   cases ha:jt l[k].kind
   ·have HS:Hid (ed wr w.heap.size l (k+1) K):=hA.skip (by rw[HI.out,ha])
    clear HI;go_wp2_with (first | (go_at_call 87;refine(aI b o k l H _ (by exact hr) hlt).mono ?_;rintro e w3 ⟨rfl,hk3⟩;unfold cQ) | (go_at_call 108;refine(cC l[k].kind _ _ _ _ _ _ _ _).mono ?_;rintro e w4 ⟨rfl,hk4⟩))
    go_roundg (l.length-(k+1))
    case measure=>omega
    case rel=>exact⟨k+1,K,by omega,rfl,by go_num,(HS.out.still hk3).still hk4,hN,(hK.trans hk3).trans hk4⟩
   ·go_wp2_with (first | (go_at_call 87;refine(aI b o k l H _ (by exact hr) hlt).mono ?_;rintro e w3 ⟨rfl,hk3⟩;unfold cQ) | (go_at_call 108;refine(cC l[k].kind _ _ _ _ _ _ _ _).mono ?_;rintro e w4 ⟨rfl,hk4⟩))
    have hk34:=hk3.trans hk4;refine(iw b o k l H _ (hr.still hk34) hlt ok).mono ?_;rintro e w5 ⟨hd,rfl,hO5,hN5,hk5⟩;have hA5:=(hA.still hk34).still hk5;have hgl:=(hA.still hk34).lt;have hng:hd.blk≠some w.heap.size:=fun e=>by have:=hN5 _ e;omega
    have HS:=(show Hid _ from hA5.store (by rw[HI.out,ha]) hlt hd hO5 hng);have hK5:=(hK.trans hk34).trans hk5;have hs3:=(hK.trans hk34).size
    have HN':Hid (∀n x,(cG K k hd n).blk=some x->w.heap.size<=x):=by
     intro n x hx
     by_cases e:n=k
     ·subst e;rw[bN]at hx;have:=hN5 x hx;omega
     ·rw[bd _ _ _ _ e]at hx;exact hN n x hx
    have c1:=hA5.cell k hlt;have hf:=hA5.free;clear hN5 hO5;go_wp2
    go_roundg (l.length-(k+1))
    case measure=>omega
    case rel=>exact⟨k+1,cG K k hd,by omega,rfl,by go_num,HS.out,HN'.out,hK5.setCell (Or.inr (Nat.le_refl _)) _⟩
  ·have e:k=l.length:=by omega
   subst e;go_wp2;go_ret;exact⟨w.heap.size,K,rfl,hA,Nat.le_refl _,hN,hK⟩
def aL(vs:List ByteArray)(x:ByteArray):Option Nat:=(List.range vs.length).find? (fun i=>(vs.getD i ⟨#[]⟩).toList==x.toList)
def l8(l:List Bool):List Value:=l.map Value.bool
def kz(l:List Bool):eI:=⟨4,1,l.length,l8 l⟩
structure gF(w:World)(tb:Nat)(vs:List ByteArray)(ms:List Bool)(hv hm:Hd):Prop where
 blk:w.heap[tb]?=some (.cells #[.slice hv.ao vs.length hv.cap,.slice hm.ao ms.length hm.cap] 230 (0,0))
 vars:au w hv (am vs)
 marks:au w hm (kz ms)
 o1:hv.blk≠some tb
 o2:hm.blk≠some tb
 o3:hv.blk=none∨hv.blk≠hm.blk
theorem gF.cells{w:World}{tb:Nat}{vs:List ByteArray}{ms:List Bool}{hv hm:Hd}(h:gF w tb vs ms hv hm):w.cell? ⟨tb,0,none⟩=some (.slice hv.ao vs.length hv.cap)/\w.cell? ⟨tb,1,none⟩=some (.slice hm.ao ms.length hm.cap):=by
 refine⟨?_,?_⟩ <;> (rw[ab h.blk];rfl)
theorem gF.lt{w:World}{tb:Nat}{vs:List ByteArray}{ms:List Bool}{hv hm:Hd}(h:gF w tb vs ms hv hm):tb<w.heap.size:=ac h.blk
theorem gF.kept{w w':World}{tb:Nat}{vs:List ByteArray}{ms:List Bool}{hv hm:Hd}{S:List Nat}(h:gF w tb vs ms hv hm)(k:aa S w w')(h1:tb∉S)(h2:∀x,hv.blk=some x∨hm.blk=some x->x∉S):gF w' tb vs ms hv hm :=
 ⟨k.get h.blk h1,h.vars.moved (fun x hx=>k.block x (h.vars.lt hx) (h2 x (Or.inl hx))),h.marks.moved (fun x hx=>k.block x (h.marks.lt hx) (h2 x (Or.inr hx))),h.o1,h.o2,h.o3⟩
theorem gF.still{w w':World}{tb:Nat}{vs:List ByteArray}{ms:List Bool}{hv hm:Hd}(h:gF w tb vs ms hv hm)(k:aa [] w w'):gF w' tb vs ms hv hm:=h.kept k (by simp) (by simp)
theorem mH(tb:Nat)(vs:List ByteArray)(ms:List Bool)(hv hm:Hd)(x:ByteArray)(w:World)(h:gF w tb vs ms hv hm)(hl:vs.length<=1073741824) :
  Calls Tryz.prog 170 #[.pointer (some ⟨tb,0,none⟩),.string x] w fun e w'=>e=.returned (.int .i64 (bQ (aL vs x)))/\w'=w:=by
 obtain⟨c0,c1⟩:=h.cells;go_enter Tryz.func170,Tryz.ntmps170;go_wp2
 go_loopg [5] vs.length (fun g i wr=>∃k:Nat,k<=vs.length/\g=vs.length-k/\i=.int .i64 k/\Hid (∀i,i<k->((vs.getD i ⟨#[]⟩).toList==x.toList)=false)/\wr=w)
 case atStart=>exact⟨0,by omega,by omega,rfl,fun i hi=>by omega,rfl⟩
 case round =>
  obtain⟨k,hk,hg,rfl,hall,rfl⟩:=hrel
  by_cases hlt:k<vs.length
  ·rcases h.vars.ways with ⟨_,h0,_⟩ | ⟨g,cur,e1,-,e3,-⟩
   ·have:vs.length=0:=h0
    omega
   ·have c2:=h.vars.cell e1 k (.string vs[k]) (mP vs k hlt)
    rw[e1]at c0;have HG:=(show Hid _ from jy vs k hlt);have hcp:vs.length<=hv.cap:=e3;generalize vs[k]=y at *
    cases hb:(y.toList==x.toList)
    ·have HN:Hid (∀i,i<k+1->((vs.getD i ⟨#[]⟩).toList==x.toList)=false):=by
      intro i hi
      by_cases e:i=k
      ·subst e;rw[HG.out];exact hb
      ·exact hall.out i (by omega)
     clear HG h;go_wp2
     go_roundg (vs.length-(k+1))
     case measure=>omega
     case rel=>exact⟨k+1,by omega,rfl,by go_num,HN,rfl⟩
    ·have HF:Hid (aL vs x=some k):=gK hlt (by rw[HG.out];exact hb) hall.out
     clear HG h;go_wp2;go_ret;exact⟨ar (by rw[HF.out];rfl),rfl⟩
  ·have HF:Hid (aL vs x=none):=fQ (fun i hi=>hall.out i (by omega))
   clear h;go_wp2;go_ret;exact⟨ar (by rw[HF.out];rfl),rfl⟩
def aT(vs ws:List ByteArray):List Nat:=ws.filterMap (aL vs)
theorem pO(vs ws:List ByteArray)(k p:Nat)(h:k<ws.length)(hp:aL vs ws[k]=some p):aT vs (ws.take (k+1))=aT vs (ws.take k)++[p]:=by
 unfold aT;rw[dv ws k h,List.filterMap_append];simp[hp]
theorem pN(vs ws:List ByteArray)(k:Nat)(h:k<ws.length)(hp:aL vs ws[k]=none):aT vs (ws.take (k+1))=aT vs (ws.take k):=by
 unfold aT;rw[dv ws k h,List.filterMap_append];simp[hp]
theorem lx(vs ws:List ByteArray):(aT vs ws).length<=ws.length:=List.length_filterMap_le _ _
set_option maxRecDepth 100000 in
theorem qH(tb:Nat)(vs:List ByteArray)(ms:List Bool)(hv hm hw:Hd)(ws:List ByteArray)(w:World)(h:gF w tb vs ms hv hm)(hl:vs.length<=1073741824)(hvw:bH w hw ws)(hwl:ws.length<=1000000) :
  Calls Tryz.prog 151 #[.pointer (some ⟨tb,0,none⟩),.slice hw.ao ws.length hw.cap] w fun e w'=>∃hd:Hd,e=.returned (.slice hd.ao (aT vs ws).length hd.cap)/\au w' hd (aP (aT vs ws))/\(∀x,hd.blk=some x->w.heap.size<=x)/\aa [] w w':=by
 obtain⟨i0,hi,hz0,hz1,hz2⟩:=info_parts fU;obtain⟨ao,cap⟩:=hw
 rcases hvw with rfl | ⟨g,off,cur,t,e1,e2,e3,e4,e5⟩
 ·clear hwl
  go_enter Tryz.func151,Tryz.ntmps151;go_wp2;refine wp_loop_rounds 1 ?_;rw[rounds_succ];go_wp2;go_ret;exact⟨⟨none,0⟩,rfl,World.ownsRow_nil _ _ _ _,by intro x hx;simp[Hd.blk]at hx,aa.refl _ _⟩
 simp only at e1;subst e1;go_enter Tryz.func151,Tryz.ntmps151;go_wp2
 go_loopg [5,6] ws.length (fun gk sv i wr=>∃(k:Nat) (hd:Hd),k<=ws.length/\gk=ws.length-k/\i=.int .i64 k/\sv=.slice hd.ao (aT vs (ws.take k)).length hd.cap/\au wr hd (aP (aT vs (ws.take k)))/\(∀x,hd.blk=some x->w.heap.size<=x)/\aa [] w wr)
 case atStart=>exact⟨0,⟨none,0⟩,by omega,by omega,rfl,rfl,World.ownsRow_nil _ _ _ _,by intro x hx;simp[Hd.blk]at hx,aa.refl _ _⟩
 case round =>
  obtain⟨k,hd,hk,hg,rfl,rfl,hO,hN,hK⟩:=hrel;have hr:=h.still hK;have hlp:=lx vs (ws.take k);have hlt':(ws.take k).length<=k:=by simp;omega
  by_cases hlt:k<ws.length
  ·have c2:wr.cell? ⟨g,off+k,none⟩=some (.string ws[k]):=(ab (hK.get e2 (by simp)) (off+k)).trans (e3 k ws[k] (List.getElem?_eq_getElem hlt))
   ·skip
    have PS:=fun p=>pO vs ws k p hlt
    have PN:=pN vs ws k hlt;have HPS:=(show Hid _ from PS);have HPN:=(show Hid _ from PN);have PA:=mH tb vs ms hv hm ws[k] wr hr hl;have HPA:=(show Hid _ from PA);clear PS PN PA e3;generalize ws[k]=y at *
    rcases hp:aL vs y with _ | p
    ·have HT:=(show Hid _ from HPN.out hp)
     rw[hp]at HPA;simp only[bQ]at HPA;clear HPS HPN;go_wp2_with (go_at_call 170;refine Calls.mono HPA.out ?_;rintro e w3 ⟨rfl,rfl⟩)
     go_roundg (ws.length-(k+1))
     case measure=>omega
     case rel=>exact⟨k+1,hd,by omega,rfl,by go_num,by rw[HT.out],by rw[HT.out];exact hO,hN,hK⟩
    ·have HT:=(show Hid _ from HPS.out p hp)
     rw[hp]at HPA;simp only[bQ]at HPA;have hO4:=hO.moved (fun x hx=>((aa.refl [] wr).alloc (.cells #[.int .i64 p] 3)).block x (hO.lt hx) (by simp));clear HPS HPN;go_wp2_with (first | (go_at_call 170;refine Calls.mono HPA.out ?_;rintro e w3 ⟨rfl,hw3⟩;rw[hw3]) | (at_builtin;refine ay _ rfl (.tmp 22) (.tmp 24) 33 rfl i0 (.int .i64 0) 8 hd (aP (aT vs (ws.take k))) Tryz.underlying33 hi hz0 hz1 hz2 rfl Nat.one_pos rfl (by exact hO4) ⟨_,0,none⟩ 1 1 [.int .i64 p] rfl rfl ?d1 ?d2 Nat.one_pos ?d3 ?d4 ?_))
     case d1=>intro j u hj;match j,hj with | 0,hj=>simp at hj;subst hj;simp[Addr.add]
     case d2=>intro u hu;simp at hu;subst hu;rfl
     case d3=>simp only[aP];unfold maxLen;omega
     case d4=>simp only[aP];omega
     intro g5 cap5 w5 hw5 hgr5 hfresh5;rw[gL (aT vs (ws.take k)) p,<-HT.out]at hw5;have hK4:=hK.alloc (.cells #[.int .i64 p] 3);have hK5:=hK4.grown hgr5 hN
     have hg5:w.heap.size<=g5:=by
      rcases hfresh5 with e | e
      ·exact hN g5 e
      ·have:=hK4.size;simp at e this;omega
     have hEl:Hid ((aP (aT vs (ws.take k))).n+1=(aT vs (ws.take (k+1))).length):=by show _=_;rw[HT.out];simp[aP]
     rw[hEl.out];clear hgr5 hfresh5 hO4;go_wp2
     go_roundg (ws.length-(k+1))
     case measure=>omega
     case rel=>exact⟨k+1,⟨some ⟨g5,0,none⟩,cap5⟩,by omega,rfl,by go_num,rfl,hw5,by intro x hx;simp[Hd.blk]at hx;omega,hK5⟩
  ·have e:k=ws.length:=by omega
   subst e;rw[List.take_length]at hO ⊢;go_wp2;go_ret;exact⟨hd,rfl,hO,hN,hK⟩
def gq(side mi:Nat)(mem:List Nat)(ms:List Bool):List Bool:=mem.foldl (fun ms mj=>ms.set (mi*side+mj) true) ms
def gZ(side:Nat)(mem:List Nat)(ms:List Bool):List Bool:=mem.foldl (fun ms mi=>gq side mi mem ms) ms
def fC(side:Nat)(mem:List Nat)(ms:List Bool)(i j:Nat):List Bool:=gq side (mem.getD i 0) (mem.take j) ((mem.take i).foldl (fun ms mi=>gq side mi mem ms) ms)
theorem kn(side mi:Nat)(mem:List Nat)(ms:List Bool):(gq side mi mem ms).length=ms.length:=by
 unfold gq
 induction mem generalizing ms with
 | nil=>rfl
 | cons a r ih=>rw[List.foldl_cons,ih];simp
theorem mz(side:Nat)(mem r:List Nat)(ms:List Bool):(r.foldl (fun ms mi=>gq side mi mem ms) ms).length=ms.length:=by
 induction r generalizing ms with
 | nil=>rfl
 | cons a r ih=>rw[List.foldl_cons,ih,kn]
theorem fP(side:Nat)(mem:List Nat)(ms:List Bool)(i j:Nat):(fC side mem ms i j).length=ms.length:=by
 unfold fC;rw[kn,mz]
theorem ux(side:Nat)(mem:List Nat)(ms:List Bool)(i j:Nat)(hj:j<mem.length):fC side mem ms i (j+1)=(fC side mem ms i j).set (mem.getD i 0*side+mem[j]) true:=by
 unfold fC gq;rw[dv mem j hj,List.foldl_append];rfl
theorem wE(side:Nat)(mem:List Nat)(ms:List Bool)(i:Nat)(hi:i<mem.length):fC side mem ms i mem.length=fC side mem ms (i+1) 0:=by
 have e:mem.getD i 0=mem[i]:=by rw[List.getD_eq_getElem?_getD,List.getElem?_eq_getElem hi];rfl
 unfold fC;rw[List.take_length,dv mem i hi,List.foldl_append,e];rfl
theorem wD(side:Nat)(mem:List Nat)(ms:List Bool):fC side mem ms mem.length 0=gZ side mem ms:=by
 unfold fC gZ;rw[List.take_length];rfl
theorem qX(l:List Bool):(l8 l).length=l.length*1:=by simp[l8]
theorem gF.mark{w:World}{tb:Nat}{vs:List ByteArray}{ms:List Bool}{hv hm:Hd}(h:gF w tb vs ms hv hm)(gm:Nat)(e:hm.ao=some ⟨gm,0,none⟩)(i:Nat)(hi:i<ms.length) :
  gF (w.setCell ⟨gm,i,none⟩ (.bool true)) tb vs (ms.set i true) hv hm:=by
 have hb:hm.blk=some gm:=by unfold Hd.blk;rw[e];rfl
 refine⟨?_,?_,?_,h.o1,h.o2,h.o3⟩
 ·rw[Below.heap_setCell _ _ _ _ (by rintro rfl;exact h.o2 hb),h.blk];simp
 ·refine h.vars.moved (fun x hx=>Below.heap_setCell _ _ _ _ ?_)
  rintro rfl
  rcases h.o3 with a | a
  ·rw[a]at hx;cases hx
  ·exact a (hx.trans hb.symm)
 ·rcases h.marks.ways with ⟨_,h0,_⟩ | ⟨g,cur,e1,e2,e3,e4,e5,e6⟩
  ·have:ms.length=0:=h0
   omega
  ·have:g=gm:=by rw[e]at e1;injection e1 with e1;injection e1 with e1;exact e1.symm
   subst this;refine⟨by simp only[kz];rw[qX],Or.inr ⟨g,hm.cap,cur.setIfInBounds i (.bool true),?_,Nat.zero_le _,ae e2 _ _,?_,e4,?_,?_⟩⟩
   ·simp[kz,e]
   ·simpa [kz] using e3
   ·simpa [kz] using e5
   ·have e6':cur.toList.take (ms.length*1)=l8 ms:=e6
    simp only[kz,List.length_set,Array.toList_setIfInBounds,List.take_set,e6'];simp[l8,List.map_set]
theorem fM(l:List Nat)(k:Nat)(h:k<l.length):(iO l)[k]?=some (.int .i64 l[k]):=by simp[iO,h]
set_option maxRecDepth 100000 in
theorem uu(tb:Nat)(vs:List ByteArray)(ms:List Bool)(hv hm hw:Hd)(mem:List Nat)(w:World)(h:gF w tb vs ms hv hm)(hml:ms.length=vs.length*vs.length)(hvl:vs.length<=10000)(hO:au w hw (aP mem))(hmm:mem.length<=1000000)
  (hin:∀i (hi:i<mem.length),mem[i]<vs.length) (hne:∀x,hw.blk=some x->hm.blk≠some x) :
  Calls Tryz.prog 150 #[.pointer (some ⟨tb,0,none⟩),.slice hw.ao mem.length hw.cap] w fun e w'=>e=.returned (.tuple #[])/\gF w' tb vs (gZ vs.length mem ms) hv hm/\dw (fun k=>hm.blk=some k) w w':=by
 obtain⟨ao,cap⟩:=hw
 rcases hO.ways with ⟨e0,h0,_⟩ | ⟨g,cur,e1,e2,e3,e4,-⟩
 ·have h0':mem.length=0:=h0
  have hl0:mem=[]:=List.eq_nil_of_length_eq_zero h0';subst hl0;clear hO h0 h0' e0 hmm hin hne;go_enter Tryz.func150,Tryz.ntmps150;go_wp2;refine wp_loop_rounds 1 ?_;rw[rounds_succ];go_wp2;go_end0;exact⟨rfl,h,dw.refl _ _⟩
 simp only at e1 e3 e4;have hcp:mem.length<=cap:=e3;have e4':cap<=9223372036854775807:=by unfold maxLen at e4;exact e4
 subst e1;have hgb:hm.blk≠some g:=hne g rfl;go_enter Tryz.func150,Tryz.ntmps150;go_wp2
 go_loopg [4] mem.length (fun gk i wr=>∃k:Nat,k<=mem.length/\gk=mem.length-k/\i=.int .i64 k/\gF wr tb vs (fC vs.length mem ms k 0) hv hm/\dw (fun k=>hm.blk=some k) w wr)
 case atStart=>exact⟨0,by omega,by omega,rfl,h,dw.refl _ _⟩
 case round =>
  obtain⟨k,hk,hg,rfl,hA,hK⟩:=hrel
  by_cases hlt:k<mem.length
  ·have HR:=(show Hid _ from wE vs.length mem ms k hlt)
   go_wp2_with fail
   go_loopg [5] mem.length (fun gk2 i2 wr2=>∃j:Nat,j<=mem.length/\gk2=mem.length-j/\i2=.int .i64 j/\gF wr2 tb vs (fC vs.length mem ms k j) hv hm/\dw (fun k=>hm.blk=some k) w wr2)
   case atStart=>exact⟨0,by omega,by omega,rfl,hA,hK⟩
   case round =>
    obtain⟨j,hj,hg2,rfl,hA2,hK2⟩:=hrel;clear hA hK
    by_cases hlj:j<mem.length
    ·have hxk:=hin k hlt
     have hxj:=hin j hlj;have hOw:au wr ⟨some ⟨g,0,none⟩,cap⟩ (aP mem):=hO.moved (fun x hx=>hK2.block x (hO.lt hx) (fun e=>hne x hx e));have p1:=hOw.cell rfl k (.int .i64 mem[k]) (fM mem k hlt);have p2:=hOw.cell rfl j (.int .i64 mem[j]) (fM mem j hlj);obtain⟨c0,c1⟩:=hA2.cells;rw[fP]at c1;have ST:=ux vs.length mem ms k j hlj;have eg:mem.getD k 0=mem[k]:=by rw[List.getD_eq_getElem?_getD,List.getElem?_eq_getElem hlt];rfl
     rw[eg]at ST
     have hb1:mem[k]*vs.length+mem[j]<ms.length:=by
      rw[hml];have:(mem[k]+1)*vs.length<=vs.length*vs.length:=Nat.mul_le_mul_right _ hxk;rw[Nat.add_mul]at this;omega
     have hb2:mem[k]*vs.length<=10000*10000:=Nat.mul_le_mul (by omega) hvl;have HMK:=(show Hid _ from fun gm e=>hA2.mark gm e (mem[k]*vs.length+mem[j]) (by rw[fP];exact hb1));have HST:=(show Hid _ from ST)
     rcases hA2.marks.ways with ⟨_,h0,_⟩ | ⟨gm,curm,em,em2,em3,-⟩
     ·have:(fC vs.length mem ms k j).length=0:=h0
      rw[fP]at this;omega
     ·have em3':ms.length<=hm.cap:=by have:(fC vs.length mem ms k j).length<=hm.cap:=em3;rw[fP]at this;exact this
      have hfm:=an em2;have hgm:=ac em2;have p3:=hA2.marks.cell em (mem[k]*vs.length+mem[j]) (.bool ((fC vs.length mem ms k j)[mem[k]*vs.length+mem[j]]'(by rw[fP];exact hb1))) (by simp[kz,l8,fP,hb1]);rw[em]at c1;clear ST em2 em3 hOw;generalize (fC vs.length mem ms k j)[mem[k]*vs.length+mem[j]]'(by rw[fP];exact hb1)=old at *;generalize hx:mem[k]=x at *;generalize hy:mem[j]=y at *;obtain⟨q,hq⟩:∃q,x*vs.length=q:=⟨_,rfl⟩
      have hq':(x:Int)*(vs.length:Int)=(q:Int):=by rw[<-hq];simp
      rw[hq]at hb1 hb2 p3 HMK HST;clear hx hy eg;go_wp2_with fail
      go_quiet (fail)
      go_wp2
      go_roundg (mem.length-(j+1))
      case measure=>omega
      case rel=>exact⟨j+1,by omega,rfl,by go_num,by rw[HST.out];exact(HMK.out gm em).still ((aa.refl [] _).drewN nq),(hK2.still ((aa.refl [] _).drewN nq)).setCell (Or.inl (by unfold Hd.blk;rw[em];rfl)) _⟩
    ·have e:j=mem.length:=by omega
     subst e;rw[HR.out]at hA2;go_wp2
     go_roundg (mem.length-(k+1))
     case measure=>omega
     case rel=>exact⟨k+1,by omega,rfl,by go_num,hA2,hK2⟩
  ·have e:k=mem.length:=by omega
   subst e;rw[wD]at hA;go_wp2;go_end0;exact⟨rfl,hA,hK⟩
def bW(side:Nat)(ms:List Bool)(i j:Nat):Bool:=!(i==j)&&ms.getD (i*side+j) false
theorem rQ{i j n:Nat}(hi:i<n)(hj:j<n):i*n+j<n*n:=by
 have:(i+1)*n<=n*n:=Nat.mul_le_mul_right _ hi;rw[Nat.add_mul]at this;omega
theorem kM(tb:Nat)(vs:List ByteArray)(ms:List Bool)(hv hm:Hd)(i j:Nat)(w:World)(h:gF w tb vs ms hv hm)(hml:ms.length=vs.length*vs.length)(hvl:vs.length<=10000)(hi:i<vs.length)(hj:j<vs.length) :
  Calls Tryz.prog 153 #[.pointer (some ⟨tb,0,none⟩),.int .i64 i,.int .i64 j] w fun e w'=>e=.returned (.bool (bW vs.length ms i j))/\w'=w:=by
 obtain⟨c0,c1⟩:=h.cells;have hb1:i*vs.length+j<ms.length:=by rw[hml];exact rQ hi hj
 have hb2:i*vs.length<=10000*10000:=Nat.mul_le_mul (by omega) hvl
 rcases h.marks.ways with ⟨_,h0,_⟩ | ⟨gm,curm,em,em2,em3,-⟩
 ·have:ms.length=0:=h0
  omega
 ·have em3':ms.length<=hm.cap:=em3
  have p3:=h.marks.cell em (i*vs.length+j) (.bool ms[i*vs.length+j]) (by simp[kz,l8,hb1]);have eg:ms.getD (i*vs.length+j) false=ms[i*vs.length+j]:=by rw[List.getD_eq_getElem?_getD,List.getElem?_eq_getElem hb1];rfl
  have HA:Hid (bW vs.length ms i j=(!(i==j)&&ms[i*vs.length+j])):=by show _=_;unfold bW;rw[eg]
  rw[em]at c1;generalize ms[i*vs.length+j]=old at *;obtain⟨q,hq⟩:∃q,i*vs.length=q:=⟨_,rfl⟩
  have hq':(i:Int)*(vs.length:Int)=(q:Int):=by rw[<-hq];simp
  rw[hq]at hb1 hb2 p3;clear eg em2 em3 h
  by_cases hij:i=j
  ·have hd:((i:Int) != (j:Int))=false:=by simp[hij]
   have HT:Hid (bW vs.length ms i j=false):=by show _=_;rw[HA.out];simp[hij]
   clear HA;go_enter Tryz.func153,Tryz.ntmps153;go_wp2;go_ret;exact⟨GQ HT.out.symm,rfl⟩
  ·have hd:((i:Int) != (j:Int))=true:=by simp;omega
   have HT:Hid (bW vs.length ms i j=old):=by show _=_;rw[HA.out];simp[hij]
   clear HA;go_enter Tryz.func153,Tryz.ntmps153;go_wp2;go_ret;exact⟨GQ HT.out.symm,rfl⟩
def jg(l:List St)(a n:Nat):Bool:=match l[n]? with | some s=>(s.kind==1)&&b7 l n a | none=>false
theorem DM(l:List St)(a n:Nat)(h:n<l.length):jg l a n=((l[n].kind==1)&&b7 l n a):=by
 unfold jg;rw[List.getElem?_eq_getElem h]
def bA(l:List St)(a:Nat)(vs:List ByteArray):Nat->List Bool
 | 0=>List.replicate (vs.length*vs.length) false
 | k+1=>if jg l a k=true then gZ vs.length (aT vs (bS l k)) (bA l a vs k) else bA l a vs k
def ce(l:List St)(a:Nat)(vs:List ByteArray):List Bool:=bA l a vs l.length
theorem fW(l:List St)(a:Nat)(vs:List ByteArray)(k:Nat):(bA l a vs k).length=vs.length*vs.length:=by
 induction k with
 | zero=>simp[bA]
 | succ k ih =>
  rw[bA]
  split
  ·unfold gZ;rw[mz,ih]
  ·exact ih
theorem yp{vs:List ByteArray}{x:ByteArray}{p:Nat}(h:aL vs x=some p):p<vs.length:=by
 have:=List.mem_of_find?_eq_some h;simpa using this
theorem mI(vs ws:List ByteArray)(i:Nat)(h:i<(aT vs ws).length):(aT vs ws)[i]<vs.length:=by
 have hm:=List.getElem_mem h;unfold aT at hm;rw[List.mem_filterMap]at hm;obtain⟨x,_,hx⟩:=hm;exact yp hx
theorem Fl:(Tryz.prog.info? 4).map (fun i=>(i.zero,i.size,i.bytes))=some (some (.bool false),1,1):=by kernel_rfl
theorem ut(v:Value)(n:Nat):madeCells #[v] n=(List.replicate n v).toArray:=by
 apply Array.ext
 ·rw[size_madeCells];simp
 ·intro i h1 h2
  have h:i<n:=by rw[size_madeCells]at h1;exact h1
  have:=sG v n i h;rw[Array.getElem?_eq_getElem h1]at this;simp at this ⊢;exact this
theorem aa.ofP{P:Nat->Prop}{w wr w1:World}(K:aa [] w wr)(g:dw P wr w1)(hb:∀k,P k->w.heap.size<=k):aa [] w w1 :=
 ⟨g.os.trans K.os,g.tape.trans K.tape,g.output.trans K.output,Nat.le_trans K.size g.size,fun k hk _=>(g.block k (Nat.lt_of_lt_of_le hk K.size) (fun e=>by have:=hb k e;omega)).trans (K.block k hk (by simp))⟩
set_option maxRecDepth 100000 in
theorem vE(b o a:Nat)(l:List St)(H:Nat->Hd)(hw:Hd)(vs:List ByteArray)(w:World)(h:bZ w b o l H)(ok:db l)(hO:au w hw (am vs))(hvl:vs.length<=10000) :
  Calls Tryz.prog 128 #[.pointer (some ⟨b,o,none⟩),.int .i64 a,.slice hw.ao vs.length hw.cap] w fun e w'=>∃(tb:Nat) (hv hm:Hd),e=.returned (.pointer (some ⟨tb,0,none⟩))/\gF w' tb vs (ce l a vs) hv hm/\w.heap.size<=tb/\(∀x,hv.blk=some x∨hm.blk=some x->w.heap.size<=x)/\aa [] w w':=by
 obtain⟨i0,hi,hz0,hz1,hz2⟩:=info_parts dp;obtain⟨i1,hi1,hy0,hy1,hy2⟩:=info_parts Fl;have hlen:=ok.len;have hbw:=h.lt;obtain⟨q,hq⟩:∃q,vs.length*vs.length=q:=⟨_,rfl⟩
 have hq':(vs.length:Int)*(vs.length:Int)=(q:Int):=by rw[<-hq];simp
 have hql:q<=10000*10000:=by rw[<-hq];exact Nat.mul_le_mul hvl hvl
 have m1:=fun w=>cA (P:=Tryz.prog) w 22 9 i0 _ Tryz.underlying22 hi hz0 vs.length 1 hz1 (by rw[hz2];omega) (by omega)
 have m2:=fun w=>cA (P:=Tryz.prog) w 140 4 i1 _ Tryz.underlying140 hi1 hy0 q 1 hy1 (by rw[hy2];omega) (by omega)
 obtain⟨mc1,hmc1⟩:∃mc,mc=madeCells (Value.string ⟨#[]⟩).cells (vs.length*1):=⟨_,rfl⟩
 obtain⟨mc2,hmc2⟩:∃mc,mc=madeCells (Value.bool false).cells (q*1):=⟨_,rfl⟩
 have z1:mc1.size=vs.length*1:=by rw[hmc1,size_madeCells]
 have HZ2:Hid (mc2=(l8 (bA l a vs 0)).toArray):=by
  show _=_
  rw[hmc2,Nat.mul_one,<-hq];have:(Value.bool false).cells=#[.bool false]:=rfl;rw[this,ut];simp[bA,l8]
 rw[<-hmc1]at m1;rw[<-hmc2]at m2;clear hmc1 hmc2;have K2:aa [] w (w.alloc (.cells mc1 9)):=(aa.refl [] _).alloc _;have Hsz1:Hid ((Tryz.prog.info? (am vs).e).map (·.size)=some (am vs).size):=by show _=_;simp[am,hi,hz1]
 obtain⟨w3,cp1,hg3,hk3,hz3⟩:=jf (P:=Tryz.prog) (w.alloc (.cells mc1 9)) 22 22 3 w.heap.size vs.length hw (am vs) mc1 9 Tryz.underlying22 Hsz1.out (heap_alloc_new _ _) (hO.moved (fun x hx=>K2.block x (hO.lt hx) (by simp))) z1 (jq _);simp only[am]at cp1 hg3;have hz3':w3.heap.size=w.heap.size+1:=by rw[hz3];simp
 have K3:aa [] w w3:=((K2.mono (S':=[w.heap.size]) (by simp)).trans hk3).mono (by simp);obtain⟨W4,hW4⟩:∃W4,W4=(w3.alloc (.cells mc2 4)).alloc (.cells #[.slice (some ⟨w.heap.size,0,none⟩) vs.length vs.length,.slice (some ⟨w3.heap.size,0,none⟩) q q] 230):=⟨_,rfl⟩
 have K4:aa [] w W4:=by rw[hW4];exact(K3.alloc _).alloc _
 have hq0:Hid (q=(bA l a vs 0).length):=by show _=_;rw[fW,hq]
 have A4:gF W4 (w3.heap.size+1) vs (bA l a vs 0) ⟨some ⟨w.heap.size,0,none⟩,vs.length⟩ ⟨some ⟨w3.heap.size,0,none⟩,q⟩:=by
  refine⟨?_,?_,?_,?_,?_,?_⟩
  ·rw[hW4,<-hq0.out]
   have:=heap_alloc_new (w3.alloc (.cells mc2 4)) (.cells #[.slice (some ⟨w.heap.size,0,none⟩) vs.length vs.length,.slice (some ⟨w3.heap.size,0,none⟩) q q] 230);simpa using this
  ·refine au.made (r:=am vs) ?_ (vg _) (by simp only[am];unfold maxLen;omega)
   rw[hW4];exact(((aa.refl [] _).alloc _).alloc _).get hg3 (by simp)
  ·have e:(⟨some ⟨w3.heap.size,0,none⟩,q⟩:Hd)=⟨some ⟨w3.heap.size,0,none⟩,(kz (bA l a vs 0)).n⟩:=by rw[hq0.out];rfl
   rw[e];refine au.made (r:=kz (bA l a vs 0)) ?_ (qX _) (by simp only[kz];rw[<-hq0.out];unfold maxLen;omega);rw[hW4];have:=((aa.refl [] (w3.alloc (.cells mc2 4))).alloc (.cells #[.slice (some ⟨w.heap.size,0,none⟩) vs.length vs.length,.slice (some ⟨w3.heap.size,0,none⟩) q q] 230)).get (heap_alloc_new w3 (.cells mc2 4)) (by simp);rw[this,HZ2.out];rfl
  ·intro e;simp[Hd.blk]at e;omega
  ·intro e;simp[Hd.blk]at e
  ·right;intro e;simp[Hd.blk]at e;omega
 have HW4:=(show Hid _ from hW4.symm);rw[hz3']at HW4 A4;clear hW4 hk3 hg3 HZ2 K2 hO Hsz1 z1 hz3;obtain⟨hv,hhv⟩:∃hv:Hd,hv=⟨some ⟨w.heap.size,0,none⟩,vs.length⟩:=⟨_,rfl⟩
 obtain⟨hm,hhm⟩:∃hm:Hd,hm=⟨some ⟨w.heap.size+1,0,none⟩,q⟩:=⟨_,rfl⟩
 rw[<-hhv,<-hhm]at A4
 have HB:Hid (∀x,hv.blk=some x∨hm.blk=some x->w.heap.size<=x/\x<=w.heap.size+1):=by
  intro x hx;rw[hhv,hhm]at hx;simp[Hd.blk]at hx;omega
 clear hhv hhm;go_enter Tryz.func128,Tryz.ntmps128
 go_upto_region 4 with fail
 rw[HW4.out];clear HW4 m1 m2 cp1 K3 hz3';go_wp2
 go_loopg [9] l.length (fun gk i wr=>∃k:Nat,k<=l.length/\gk=l.length-k/\i=.int .i64 k/\gF wr (w.heap.size+1+1) vs (bA l a vs k) hv hm/\aa [] w wr)
 case atStart=>exact⟨0,by omega,by omega,rfl,A4,K4⟩
 case round =>
  obtain⟨k,hk,hg,rfl,hA,hK⟩:=hrel;have hr:=h.still hK;have hal:=hA.lt;clear A4 K4
  by_cases hlt:k<l.length
  ·have HD:=(show Hid _ from DM l a k hlt)
   have hsk:=ok.syms k hlt;have hpk:=ok.pos k hlt;have SY:Hid (bS l k=l[k].symbols):=jr l k hlt;have HU:Hid (bA l a vs (k+1)=if jg l a k=true then gZ vs.length (aT vs (bS l k)) (bA l a vs k) else bA l a vs k):=rfl
   cases hkd:(l[k].kind==1)
   ·have HT:Hid (bA l a vs (k+1)=bA l a vs k):=by show _=_;rw[HU.out,HD.out,hkd];simp
    clear HD HU SY;go_wp2_with (first | (go_at_call 77;refine(cL b o l H _ (by exact hr)).mono ?_;rintro e wc ⟨rfl,rfl⟩) | (go_at_call 87;refine(aI b o k l H _ (by exact hr) hlt).mono ?_;rintro e w5 ⟨rfl,hk5⟩;unfold cQ))
    go_roundg (l.length-(k+1))
    case measure=>omega
    case rel=>exact⟨k+1,by omega,rfl,by go_num,by rw[HT.out];exact(hA.still hk5).still ((aa.refl [] _).alloc _),(hK.trans hk5).alloc _⟩
   ·go_wp2_with (first | (go_at_call 77;refine(cL b o l H _ (by exact hr)).mono ?_;rintro e wc ⟨rfl,hwc⟩;rw[hwc]) | (go_at_call 87;refine(aI b o k l H _ (by exact hr) hlt).mono ?_;rintro e w5 ⟨rfl,hk5⟩;unfold cQ))
    obtain⟨W6,hW6⟩:∃W6,W6=w5.alloc (.cells #[.int .i64 l[k].kind,.string l[k].label,.slice (H (10+2*k)).ao l[k].symbols.length (H (10+2*k)).cap,.slice (H (11+2*k)).ao l[k].proof.length (H (11+2*k)).cap,.string l[k].fin.file,.int .i64 l[k].fin.line,.int .i64 l[k].fin.col,.int .i64 l[k].til] 144):=⟨_,rfl⟩
    rw[<-hW6];have k6:aa [] wr W6:=by rw[hW6];exact hk5.alloc _
    have B6:W6.heap[w5.heap.size]?=some (.cells #[.int .i64 l[k].kind,.string l[k].label,.slice (H (10+2*k)).ao l[k].symbols.length (H (10+2*k)).cap,.slice (H (11+2*k)).ao l[k].proof.length (H (11+2*k)).cap,.string l[k].fin.file,.int .i64 l[k].fin.line,.int .i64 l[k].fin.col,.int .i64 l[k].til] 144 (0,0)):=by rw[hW6];exact heap_alloc_new _ _
    have q2:W6.cell? ⟨w5.heap.size,2,none⟩=some (.slice (H (10+2*k)).ao l[k].symbols.length (H (10+2*k)).cap):=by rw[ab B6];rfl
    have hr6:=hr.still k6;have hA6:=hA.still k6;have hK6:=hK.trans k6;have hV6:=(hr6.sts.syms k l[k] (List.getElem?_eq_getElem hlt)).view;clear hW6 hk5 k6 B6 hr hA hK
    cases hh:b7 l k a
    ·have HT:Hid (bA l a vs (k+1)=bA l a vs k):=by show _=_;rw[HU.out,HD.out,hh];simp
     clear HD HU SY;go_wp2_with (go_at_call 125;refine(dV b o k a l H _ (by exact hr6) hlt).mono ?_;rintro e w7 ⟨rfl,rfl⟩)
     go_roundg (l.length-(k+1))
     case measure=>omega
     case rel=>exact⟨k+1,by omega,rfl,by go_num,by rw[HT.out];exact hA6,hK6⟩
    ·have HT:Hid (bA l a vs (k+1)=gZ vs.length (aT vs l[k].symbols) (bA l a vs k)):=by show _=_;rw[HU.out,HD.out,hkd,hh,SY.out];simp
     clear HD HU SY;go_wp2_with (first | (go_at_call 125;refine(dV b o k a l H _ (by exact hr6) hlt).mono ?_;rintro e w7 ⟨rfl,hw7⟩;rw[hw7]) | (go_at_call 151;refine(qH (w.heap.size+1+1) vs (bA l a vs k) hv hm (H (10+2*k)) l[k].symbols _ (by exact hA6) (by omega) (by exact hV6) (by omega)).mono ?_;rintro e w8 ⟨hd,rfl,hO8,hN8,hk8⟩));have hA8:=hA6.still hk8;have hpl:=lx vs l[k].symbols
     refine(uu (w.heap.size+1+1) vs (bA l a vs k) hv hm hd (aT vs l[k].symbols) _ hA8 (fW _ _ _ _) hvl hO8 (by omega) (fun i hi=>mI vs l[k].symbols i hi) (by
      intro x hx e;have h1:=hN8 x hx;have h2:=HB.out x (Or.inr e);have h3:=hA6.lt
      omega)).mono ?_
     rintro e w9 ⟨rfl,hA9,hk9⟩;have hK9:=(hK6.trans hk8).ofP hk9 (fun x hx=>(HB.out x (Or.inr hx)).1);go_wp2
     go_roundg (l.length-(k+1))
     case measure=>omega
     case rel=>exact⟨k+1,by omega,rfl,by go_num,by rw[HT.out];exact hA9,hK9⟩
  ·have e:k=l.length:=by omega
   subst e;go_wp2_with (go_at_call 77;refine(cL b o l H _ (by exact hr)).mono ?_;rintro e wc ⟨rfl,rfl⟩);go_ret;exact⟨w.heap.size+1+1,hv,hm,rfl,hA,by omega,fun x hx=>(HB.out x hx).1,hK⟩
structure af(w:World)(b t:Nat)(cs:List Value)(rows:Nat->eI)(H:Nat->Hd):Prop where
 blk:w.heap[b]?=some (.cells cs.toArray t (0,0))
 own:∀i,au w (H i) (rows i)
 apart:∀i j,i≠j->(H i).blk=none∨(H i).blk≠(H j).blk
 off:∀i,(H i).blk≠some b
theorem af.lt{w:World}{b t:Nat}{cs:List Value}{rows:Nat->eI}{H:Nat->Hd}(h:af w b t cs rows H):b<w.heap.size:=ac h.blk
theorem af.inlt{w:World}{b t:Nat}{cs:List Value}{rows:Nat->eI}{H:Nat->Hd}(h:af w b t cs rows H){k:Nat}(hk:cK H k):k<w.heap.size:=by
 obtain⟨i,hi⟩:=hk;exact(h.own i).lt hi
theorem af.free{w:World}{b t:Nat}{cs:List Value}{rows:Nat->eI}{H:Nat->Hd}(h:af w b t cs rows H)(i:Nat):w.frozen? ⟨b,i,none⟩=false:=an h.blk i
theorem af.cell{w:World}{b t:Nat}{cs:List Value}{rows:Nat->eI}{H:Nat->Hd}(h:af w b t cs rows H)(i:Nat):w.cell? ⟨b,i,none⟩=cs[i]?:=by rw[ab h.blk];simp
theorem af.keptP{w w':World}{b t:Nat}{cs:List Value}{rows:Nat->eI}{H:Nat->Hd}{P:Nat->Prop}(h:af w b t cs rows H)(hk:dw P w w')(hb:¬P b)(hs:∀k,cK H k->¬P k):af w' b t cs rows H :=
 ⟨hk.get h.blk hb,fun i=>(h.own i).moved (fun k hk'=>hk.block k ((h.own i).lt hk') (hs k ⟨i,hk'⟩)),h.apart,h.off⟩
theorem af.kept{w w':World}{b t:Nat}{cs:List Value}{rows:Nat->eI}{H:Nat->Hd}{S:List Nat}(h:af w b t cs rows H)(hk:aa S w w')(hb:b∉S)(hs:∀k,cK H k->k∉S):af w' b t cs rows H :=
 h.keptP (hk.toP (P:=(·∈S)) (fun _ hm _=>hm)) hb hs
theorem af.still{w w':World}{b t:Nat}{cs:List Value}{rows:Nat->eI}{H:Nat->Hd}(h:af w b t cs rows H)(hk:aa [] w w'):af w' b t cs rows H:=h.kept hk (by simp) (by simp)
theorem af.put{w w1:World}{b t:Nat}{cs:List Value}{rows rows':Nat->eI}{H:Nat->Hd}(h:af w b t cs rows H)(c i:Nat)(h':Hd)
  (o1:au w1 h' (rows' i)) (hg:w.grownBy w1 (H i).blk)
  (hf:h'.blk=none∨h'.blk=(H i).blk∨∃g,h'.blk=some g/\w.heap.size<=g) (hrow:∀j,j≠i->rows' j=rows j) (u:Value) :
  af (w1.setCell ⟨b,c,none⟩ u) b t (cs.set c u) rows' (cG H i h')/\ag b w H (w1.setCell ⟨b,c,none⟩ u) (cG H i h'):=by
 have hb:=h.lt;have hb1:w1.heap[b]?=some (.cells cs.toArray t (0,0)):=(hg.block b hb (fun e=>h.off i e.symm)).trans h.blk
 have hoff:∀j,(cG H i h' j).blk≠some b:=by
  intro j
  by_cases e:j=i
  ·subst e;rw[bN];intro hx
   rcases hf with hf | hf | ⟨g,hf,hg'⟩
   ·rw[hf]at hx;cases hx
   ·exact h.off j (hf ▸ hx)
   ·rw[hf]at hx;cases hx;omega
  ·rw[bd _ _ _ _ e];exact h.off j
 refine⟨⟨?_,?_,?_,hoff⟩,⟨hg.os,hg.tape,hg.output,by have:=hg.size;simp[World.setCell];omega,?_⟩,?_⟩
 ·rw[ae hb1,List.setIfInBounds_toArray]
 ·intro j
  have q:au w1 (cG H i h' j) (rows' j):=by
   by_cases e:j=i
   ·subst e;rw[bN];exact o1
   ·rw[bd _ _ _ _ e,hrow j e]
    refine(h.own j).moved (fun k hk=>hg.block k ((h.own j).lt hk) ?_);intro ek
    rcases h.apart j i e with a | a
    ·rw[a]at hk;cases hk
    ·exact a (hk.trans ek)
  refine q.moved (fun k hk=>Below.heap_setCell _ _ _ _ ?_);rintro rfl;exact hoff j hk
 ·intro j l hne
  by_cases e:j=i
  ·subst e
   rw[bN,bd _ _ _ _ (fun e=>hne e.symm)]
   rcases hf with hf | hf | ⟨g,hf,hg'⟩
   ·exact Or.inl hf
   ·rw[hf];exact h.apart j l hne
   ·right;rw[hf];intro ek;have:=(h.own l).lt ek.symm;omega
  ·rw[bd _ _ _ _ e]
   by_cases e2:l=i
   ·subst e2
    rw[bN]
    rcases hf with hf | hf | ⟨g,hf,hg'⟩
    ·rw[hf];cases (H j).blk <;> simp
    ·rw[hf];exact h.apart j l hne
    ·cases hx:(H j).blk with
     | none=>exact Or.inl rfl
     | some k=>right;rw[hf];intro ek;cases ek;have:=(h.own j).lt hx;omega
   ·rw[bd _ _ _ _ e2];exact h.apart j l hne
 ·intro k hk hn
  rw[Below.heap_setCell _ _ _ _ (fun e=>hn (Or.inl e))];exact hg.block k hk (fun e=>hn (Or.inr ⟨i,e.symm⟩))
 ·intro k hk
  obtain⟨j,e⟩:=hk
  by_cases ei:j=i
  ·subst ei
   rw[bN]at e
   rcases hf with hf | hf | ⟨g,hf,hg'⟩
   ·rw[hf]at e;cases e
   ·exact Or.inl ⟨j,hf ▸ e⟩
   ·rw[hf]at e;cases e;exact Or.inr hg'
  ·rw[bd _ _ _ _ ei]at e
   exact Or.inl ⟨j,e⟩
theorem af.set{w:World}{b t:Nat}{cs:List Value}{rows:Nat->eI}{H:Nat->Hd}(h:af w b t cs rows H)(c:Nat)(u:Value) :
  af (w.setCell ⟨b,c,none⟩ u) b t (cs.set c u) rows H/\ag b w H (w.setCell ⟨b,c,none⟩ u) H:=by
 refine⟨⟨?_,?_,h.apart,h.off⟩,(dw.refl _ _).setCell (Or.inl (Or.inl rfl)) _,fun _ hk=>Or.inl hk⟩
 ·rw[ae h.blk,List.setIfInBounds_toArray]
 ·intro j
  refine(h.own j).moved (fun k hk=>Below.heap_setCell _ _ _ _ ?_);rintro rfl;exact h.off j hk
theorem af.app{w w1:World}{b t:Nat}{cs cs':List Value}{rows rows':Nat->eI}{H:Nat->Hd}(h:af w b t cs rows H)(c i g cap' m:Nat)(r:eI)
  (hw1:au w1 ⟨some ⟨g,0,none⟩,cap'⟩ r) (hr:r=rows' i) (hgr:w.grownBy w1 (H i).blk) (hfresh:(H i).blk=some g∨w.heap.size<=g)
  (hrow:∀j,j≠i->rows' j=rows j) (v0:Value) (hv:cs[c]?=some v0) (hl:cs.set c (.slice (some ⟨g,0,none⟩) m cap')=cs') :
  w1.cell? ⟨b,c,none⟩=some v0/\w1.frozen? ⟨b,c,none⟩=false /\
  Hid (af (w1.setCell ⟨b,c,none⟩ (.slice (some ⟨g,0,none⟩) m cap')) b t cs' rows' (cG H i ⟨some ⟨g,0,none⟩,cap'⟩) /\
   ag b w H (w1.setCell ⟨b,c,none⟩ (.slice (some ⟨g,0,none⟩) m cap')) (cG H i ⟨some ⟨g,0,none⟩,cap'⟩)):=by
 have hk:=(hgr.block b h.lt (fun e=>h.off i e.symm)).trans h.blk;subst hr;subst hl;refine⟨by rw[ab hk];simpa using hv,an hk _,?_⟩
 exact h.put (rows':=rows') c i ⟨some ⟨g,0,none⟩,cap'⟩ hw1 hgr
  (by
    rcases hfresh with e | e
    ·exact Or.inr (Or.inl e.symm)
    ·exact Or.inr (Or.inr ⟨g,rfl,by simpa using e⟩)) hrow _
structure lE(w:World)(b o g:Nat)(L:List Rw):Prop where
 cell:∃arr t,w.heap[b]?=some (.cells arr t (0,0))/\arr[o+2]?=some (.slice (some ⟨g,0,none⟩) L.length L.length)
 arr:w.heap[g]?=some (.cells (d8 L).toArray 53 (0,0))
theorem lE.still{w w':World}{b o g:Nat}{L:List Rw}(h:lE w b o g L)(k:aa [] w w'):lE w' b o g L:=by
 obtain⟨arr,t,h1,h2⟩:=h.cell;exact⟨⟨arr,t,k.get h1 (by simp),h2⟩,k.get h.arr (by simp)⟩
theorem lE.at2{w:World}{b o g:Nat}{L:List Rw}(h:lE w b o g L):w.cell? ⟨b,o+2,none⟩=some (.slice (some ⟨g,0,none⟩) L.length L.length):=by
 obtain⟨arr,t,h1,h2⟩:=h.cell;rw[ab h1];exact h2
def nP(r:Rw):Bool:=!(r.verdict==0)
def fE(L:List Rw)(k:Nat):List Rw:=(L.take k).filter nP
theorem wW(L:List Rw)(k:Nat)(h:L.length<=10000):(fE L k).length<=10000:=by
 have h1:=List.length_filter_le nP (L.take k);have h2:(L.take k).length<=L.length:=by simp;omega
 unfold fE;omega
theorem wX(L:List Rw)(k:Nat)(hk:k<L.length)(h:(L[k].verdict==0)=false):fE L (k+1)=fE L k++[L[k]]:=by
 unfold fE;rw[dv L k hk,List.filter_append];simp[nP,h]
theorem z9(L:List Rw)(k:Nat)(hk:k<L.length)(h:(L[k].verdict==0)=true):fE L (k+1)=fE L k:=by
 unfold fE;rw[dv L k hk,List.filter_append];simp[nP,h]
theorem wV(L:List Rw):fE L L.length=L.filter nP:=by unfold fE;rw[List.take_length]
theorem CU(L:List Rw):∀u∈d8 L,u.oneCell'=true:=by
 intro u hu;unfold d8 at hu;rw[List.mem_flatMap]at hu;obtain⟨r,_,hr⟩:=hu;exact yB r u hr
set_option maxRecDepth 100000 in
theorem Ad(b o g:Nat)(L:List Rw)(w:World)(h:lE w b o g L)(hL:L.length<=10000) :
  Calls Tryz.prog 43 #[.pointer (some ⟨b,o,none⟩)] w fun e w'=>∃ob:Option Nat,e=.returned (dn ob (L.filter nP).length)/\dG w' ob (L.filter nP)/\(∀x,ob=some x->w.heap.size<=x)/\aa [] w w':=by
 obtain⟨i0,hi,hz0,hz1,hz2⟩:=info_parts E3;go_enter Tryz.func43,Tryz.ntmps43;go_wp2
 go_loopg [3,4] L.length (fun gk sv i wr=>∃(k:Nat) (hd:Hd),k<=L.length/\gk=L.length-k/\i=.int .i64 k/\sv=.slice hd.ao (fE L k).length hd.cap/\au wr hd (kB (fE L k))/\(∀x,hd.blk=some x->w.heap.size<=x)/\aa [] w wr)
 case atStart=>exact⟨0,⟨none,0⟩,by omega,by omega,rfl,rfl,World.ownsRow_nil _ _ _ _,by intro x hx;simp[Hd.blk]at hx,aa.refl _ _⟩
 case round =>
  obtain⟨k,hd,hk,hg,rfl,rfl,hO,hN,hK⟩:=hrel;have hT:=h.still hK;have c2:=hT.at2;have hal:=wW L k hL
  by_cases hlt:k<L.length
  ·obtain⟨a0,a1,a2,a3,a4,a5⟩:=ly hT.arr (fun j v hj=>by simpa using hj) k hlt
   have HY:=(show Hid _ from wX L k hlt);have HN0:=(show Hid _ from z9 L k hlt);have hki:(k:Int)<L.length:=by omega
   generalize L[k]=r at *
   cases hv:(r.verdict==0)
   ·have hv':(r.verdict != 0)=true:=by simp[bne,hv]
    have HT:=(show Hid _ from HY.out hv);have hO4:=hO.moved (fun x hx=>((aa.refl [] wr).alloc (.cells #[.string r.label,.int .i64 r.verdict,.int .i64 r.why,.string r.at_.file,.int .i64 r.at_.line,.int .i64 r.at_.col] 53)).block x (hO.lt hx) (by simp));clear HY HN0
    go_upto_region 6 with fail
    go_wp2_with (at_builtin;refine ay _ rfl (.tmp 24) (.tmp 32) 32 rfl i0 (.agg #[.string ⟨#[]⟩,.int .i64 0,.int .i64 0,.string ⟨#[]⟩,.int .i64 0,.int .i64 0]) 64 hd (kB (fE L k)) Tryz.underlying32 hi hz0 hz1 hz2 rfl (Nat.succ_pos 5) rfl (by exact hO4) ⟨_,0,none⟩ 1 1 (gB r) rfl rfl ?d1 ?d2 Nat.one_pos ?d3 ?d4 ?_)
    case d1 =>
     intro j u hj
     match j,hj with
     | 0,hj=>simp[gB]at hj;subst hj;simp[Addr.add]
     | 1,hj=>simp[gB]at hj;subst hj;simp[Addr.add]
     | 2,hj=>simp[gB]at hj;subst hj;simp[Addr.add]
     | 3,hj=>simp[gB]at hj;subst hj;simp[Addr.add]
     | 4,hj=>simp[gB]at hj;subst hj;simp[Addr.add]
     | 5,hj=>simp[gB]at hj;subst hj;simp[Addr.add]
     | j+6,hj=>simp[gB]at hj
    case d2=>exact yB r
    case d3=>simp only[kB];unfold maxLen;omega
    case d4=>simp only[kB];omega
    intro g5 cap5 w5 hw5 hgr5 hfresh5;rw[z6 (fE L k) r,<-HT.out]at hw5;have hK4:=hK.alloc (.cells #[.string r.label,.int .i64 r.verdict,.int .i64 r.why,.string r.at_.file,.int .i64 r.at_.line,.int .i64 r.at_.col] 53);have hK5:=hK4.grown hgr5 hN
    have hg5:w.heap.size<=g5:=by
     rcases hfresh5 with e | e
     ·exact hN g5 e
     ·have:=hK4.size;simp at e this;omega
    have hEl:Hid ((kB (fE L k)).n+1=(fE L (k+1)).length):=by show _=_;rw[HT.out];simp[kB]
    rw[hEl.out];clear hgr5 hfresh5 hO4;go_wp2
    go_roundg (L.length-(k+1))
    case measure=>omega
    case rel=>exact⟨k+1,⟨some ⟨g5,0,none⟩,cap5⟩,by omega,rfl,by go_num,rfl,hw5,by intro x hx;simp[Hd.blk]at hx;omega,hK5⟩
   ·have hv':(r.verdict != 0)=false:=by simp[bne,hv]
    have HT:=(show Hid _ from HN0.out hv);clear HY HN0;go_wp2
    go_roundg (L.length-(k+1))
    case measure=>omega
    case rel=>exact⟨k+1,hd,by omega,rfl,by go_num,by rw[HT.out],by rw[HT.out];exact hO,hN,hK⟩
  ·have e:k=L.length:=by omega
   subst e;obtain⟨M,HM⟩:∃M,Hid (L.filter nP=M):=⟨_,rfl⟩
   rw[wV,HM.out]at hal hO ⊢
   by_cases hm:M.length=0
   ·have hmi:((M.length:Int)==0)=true:=by simp[hm]
    have hM:M=[]:=List.eq_nil_of_length_eq_zero hm;go_wp2;go_ret;rw[HM.out];exact⟨none,rfl,hM,by simp,hK⟩
   ·have hmi:((M.length:Int)==0)=false:=by rw[beq_eq_false_iff_ne];omega
    have m1:=fun w=>cA (P:=Tryz.prog) w 32 53 i0 _ Tryz.underlying32 hi hz0 M.length 6 hz1 (by rw[hz2];omega) (by omega)
    obtain⟨mc1,hmc1⟩:∃mc,mc=madeCells (Value.agg #[.string ⟨#[]⟩,.int .i64 0,.int .i64 0,.string ⟨#[]⟩,.int .i64 0,.int .i64 0]).cells (M.length*6):=⟨_,rfl⟩
    have z1:mc1.size=M.length*6:=by rw[hmc1,size_madeCells]
    rw[<-hmc1]at m1;clear hmc1;have K2:aa [] wr (wr.alloc (.cells mc1 53)):=(aa.refl [] _).alloc _;have Hsz1:Hid ((Tryz.prog.info? (kB M).e).map (·.size)=some (kB M).size):=by show _=_;simp[kB,hi,hz1]
    obtain⟨w3,cp1,hg3,hk3,hz3⟩:=jf (P:=Tryz.prog) (wr.alloc (.cells mc1 53)) 32 32 3 wr.heap.size M.length hd (kB M) mc1 53 Tryz.underlying32 Hsz1.out (heap_alloc_new _ _) (hO.moved (fun x hx=>K2.block x (hO.lt hx) (by simp))) z1 (CU _);simp only[kB]at cp1 hg3;have K3:aa [] wr w3:=((K2.mono (S':=[wr.heap.size]) (by simp)).trans hk3).mono (by simp);have hs:=hK.size;clear hk3 hz3 K2;go_wp2;go_ret;rw[HM.out];exact⟨some wr.heap.size,rfl,⟨by omega,hg3⟩,fun x hx=>by cases hx;exact hs,hK.trans K3⟩
theorem Ae(b o:Nat)(w:World)(h:w.cell? ⟨b,o+2,none⟩=some (.slice none 0 0)) :
  Calls Tryz.prog 43 #[.pointer (some ⟨b,o,none⟩)] w fun e w'=>e=.returned (.slice none 0 0)/\w'=w:=by
 go_enter Tryz.func43,Tryz.ntmps43;go_wp2;refine wp_loop_rounds 1 ?_;rw[rounds_succ];go_wp2;go_ret;exact⟨rfl,rfl⟩
end Go.Proofs.YtlbhbocbakijbaaGreat

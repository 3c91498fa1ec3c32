import Derived.BigQuiet
import Derived.Test.YtpddjjabfbfifaaGreatG09
namespace Go.Proofs.YtpddjjabfbfifaaGreat
open Go.RowKit
set_option maxHeartbeats 40000000
section
structure jH(l:List St):Prop where
 len:l.length<=10000
 pos:∀i (h:i<l.length),0<l[i].symbols.length
 syms:∀i (h:i<l.length),l[i].symbols.length<=10000
 prfs:∀i (h:i<l.length),l[i].proof.length<=10000
theorem ab.grown{w wr w1:World}{b:Option Nat}(K:ab [] w wr)(g:wr.grownBy w1 b)(hb:∀k,b=some k->w.heap.size<=k):ab [] w w1 :=
 ⟨g.os.trans K.os,g.tape.trans K.tape,g.output.trans K.output,Nat.le_trans K.size g.size,fun k hk _=>(g.block k (Nat.lt_of_lt_of_le hk K.size) (fun e=>by have:=hb k e.symm;omega)).trans (K.block k hk (by simp))⟩
theorem tI(w:World)(k l c u:Int)(lab f:ByteArray)(a1 a2:Option Addr)(n1 c1 n2 c2:Nat) :
  (Instr.field 158 (.agg #[.int .i64 k,.string lab,.slice a1 n1 c1,.slice a2 n2 c2,.string f,.int .i64 l,.int .i64 c,.int .i64 u]) 2).run Tryz.prog w=.ok (.slice a1 n1 c1) w:=by kernel_rfl
attribute [local go_sem] tI
def Dw(l:List St)(a n:Nat):Bool:=match l[n]? with | some s=>(s.kind==3)&&io l n a | none=>false
theorem Kn(l:List St)(a n:Nat)(h:n<l.length):Dw l a n=((l[n].kind==3)&&io l n a):=by
 unfold Dw;rw[List.getElem?_eq_getElem h]
def ee(l:List St)(a k:Nat):List ByteArray:=fR l a++((List.range k).filter (Dw l a)).flatMap (fR l)
def gI(l:List St)(a:Nat):List ByteArray:=ee l a l.length
theorem mm(l:List St)(n:Nat)(h:n<l.length):fR l n=l[n].symbols:=by
 unfold fR;rw[List.getElem?_eq_getElem h]
theorem rW(l:List St)(a:Nat):ee l a 0=fR l a:=by unfold ee;rw[List.range_zero];rw[List.filter_nil,List.flatMap_nil,List.append_nil]
theorem uK(l:List St)(a k:Nat)(h:Dw l a k=true):ee l a (k+1)=ee l a k++fR l k:=by
 unfold ee;rw[List.range_succ,List.filter_append];simp[h]
theorem rA(l:List St)(a k:Nat)(h:Dw l a k=false):ee l a (k+1)=ee l a k:=by
 unfold ee;rw[List.range_succ,List.filter_append];simp[h]
theorem uJ(l:List St)(a k:Nat)(ok:jH l)(ha:a<l.length)(hk:k<=l.length):(ee l a k).length<=10000+k*10000:=by
 induction k with
 | zero =>
  have:=ok.syms a ha;have e:=congrArg List.length (rW l a);have e2:=congrArg List.length (mm l a ha);omega
 | succ k ih =>
  have:=ih (by omega)
  cases h:Dw l a k with
  | true =>
   have e:=congrArg List.length (uK l a k h);have e2:=congrArg List.length (mm l k (by omega));have:=ok.syms k (by omega);rw[List.length_append]at e;omega
  | false =>
   have e:=congrArg List.length (rA l a k h);omega
set_option maxRecDepth 100000 in
theorem vm(b o a:Nat)(l:List St)(H:Nat->Hd)(w:World)(h:eu w b o l H)(ha:a<l.length)(ok:jH l) :
  Calls Tryz.prog 186 #[.pointer (some ⟨b,o,none⟩),.int .i64 a] w fun e w'=>∃hd:Hd,e=.returned (.slice hd.ao (gI l a).length hd.cap)/\aA w' hd (aD (gI l a))/\(∀k,hd.blk=some k->w.heap.size<=k)/\ab [] w w':=by
 obtain⟨i0,hi,hz0,hz1,hz2⟩:=info_parts jI;have hlen:=ok.len;have hbw:=h.lt;go_enter Tryz.func186,Tryz.ntmps186;go_wp2_with fail;refine(bb b o a l H _ h ha).mono ?_;rintro e w1 ⟨rfl,hk1⟩;have h1:=h.still hk1;have O1:=h1.sts.syms a l[a] (List.getElem?_eq_getElem ha);have hp:=ok.pos a ha;have hm:=ok.syms a ha
 rcases O1.ways with ⟨_,h0,_⟩ | ⟨g1,cur1,e1,-⟩
 ·have:l[a].symbols.length=0:=h0
  omega
 ·unfold eI
  rw[e1];have hsrc:Hid (∀j u,(dO l[a].symbols)[j]?=some u->w1.cell? ((⟨g1,0,none⟩:Addr).add j)=some u):=fun j u hj=>by rw[bK];exact O1.cell e1 j u hj
  have ES:Hid (ee l a 0=l[a].symbols):=by show _=_;rw[rW];exact mm l a ha
  have HO:Hid (aA w1 ⟨none,0⟩ (aD [])):=World.ownsRow_nil _ _ _ _;clear O1;go_wp2_with (at_builtin;refine aM _ rfl (.tmp 8) (.tmp 12) 61 rfl i0 (.string ⟨#[]⟩) 16 ⟨none,0⟩ (aD []) Tryz.underlying61 hi hz0 hz1 hz2 rfl Nat.one_pos rfl HO.out ⟨g1,0,none⟩ l[a].symbols.length (H (10+2*a)).cap (dO l[a].symbols) rfl ?c0 hsrc.out (ku _) hp ?c3 ?c4 ?_)
  case c0=>simp[dO,aD]
  case c3=>simp only[aD,List.length_nil];unfold maxLen;omega
  case c4=>simp only[aD,List.length_nil];omega
  intro g cap' w2 hw2 hgr hfresh;rw[om [] l[a].symbols,List.nil_append,<-ES.out]at hw2;have hK2:ab [] w w2:=hk1.grown hgr (by simp[Hd.blk])
  have hg2:w.heap.size<=g:=by
   rcases hfresh with e | e
   ·simp[Hd.blk]at e
   ·exact Nat.le_trans hk1.size e
  have hEl:Hid ((aD []).n+l[a].symbols.length=(ee l a 0).length):=by show _=_;rw[ES.out];simp[aD]
  rw[hEl.out];clear hsrc HO hgr hfresh h1 hk1 e1 hp hm hEl ES;go_wp2
  go_loopg [5,6] l.length (fun gk sv i wr=>∃(k:Nat) (hd:Hd),k<=l.length/\gk=l.length-k/\i=.int .i64 k/\sv=.slice hd.ao (ee l a k).length hd.cap/\aA wr hd (aD (ee l a k))/\(∀x,hd.blk=some x->w.heap.size<=x)/\ab [] w wr)
  case atStart=>exact⟨0,⟨some ⟨g,0,none⟩,cap'⟩,by omega,by omega,rfl,rfl,hw2,by intro x hx;simp[Hd.blk]at hx;omega,hK2⟩
  case round =>
   obtain⟨k,hd,hk,hg,rfl,rfl,hO,hN,hK⟩:=hrel;have hr:=h.still hK;clear hw2 hK2
   by_cases hlt:k<l.length
   ·have hsl:=uJ l a k ok ha (by omega)
    have HES:=(show Hid _ from Kn l a k hlt);have hsk:=ok.syms k hlt;have hpk:=ok.pos k hlt;have OK':=hr.sts.syms k l[k] (List.getElem?_eq_getElem hlt)
    rcases OK'.ways with ⟨_,h0,_⟩ | ⟨gk',curk,ek,-⟩
    ·have:l[k].symbols.length=0:=h0
     omega
    ·have SY:Hid (fR l k=l[k].symbols):=mm l k hlt
     cases hkd:(l[k].kind==3)
     ·have HT:Hid (ee l a (k+1)=ee l a k):=rA l a k (by rw[HES.out,hkd];rfl)
      clear HES OK';go_wp2_with (first | (go_at_call 80;refine(dR b o l H _ (by exact hr)).mono ?_;rintro e w3 ⟨rfl,rfl⟩) | (go_at_call 97;refine(bb b o k l H _ (by exact hr) hlt).mono ?_;rintro e w3 ⟨rfl,hk3⟩;unfold eI))
      go_roundg (l.length-(k+1))
      case measure=>omega
      case rel=>exact⟨k+1,hd,by omega,rfl,by go_num,by rw[HT.out],by rw[HT.out];exact hO.moved (fun x hx=>(hk3.trans ((ab.refl [] _).alloc _)).block x (hO.lt hx) (by simp)),hN,(hK.trans hk3).alloc _⟩
     ·go_wp2_with (first | (go_at_call 80;refine(dR b o l H _ (by exact hr)).mono ?_;rintro e wc ⟨rfl,rfl⟩) | (go_at_call 97;refine(bb b o k l H _ (by exact hr) hlt).mono ?_;rintro e w3 ⟨rfl,hk3⟩;unfold eI))
      obtain⟨W4,hW4⟩:∃W4,W4=w3.alloc (.cells #[.int .i64 l[k].kind,.string l[k].label,.slice (some ⟨gk',0,none⟩) l[k].symbols.length (H (10+2*k)).cap,.slice (H (11+2*k)).ao l[k].proof.length (H (11+2*k)).cap,.string l[k].fin.file,.int .i64 l[k].fin.line,.int .i64 l[k].fin.col,.int .i64 l[k].til] 158):=⟨_,rfl⟩
      rw[<-hW4];have k4:ab [] wc W4:=by rw[hW4];exact hk3.alloc _
      have B4:W4.heap[w3.heap.size]?=some (.cells #[.int .i64 l[k].kind,.string l[k].label,.slice (some ⟨gk',0,none⟩) l[k].symbols.length (H (10+2*k)).cap,.slice (H (11+2*k)).ao l[k].proof.length (H (11+2*k)).cap,.string l[k].fin.file,.int .i64 l[k].fin.line,.int .i64 l[k].fin.col,.int .i64 l[k].til] 158 (0,0)):=by rw[hW4];exact heap_alloc_new _ _
      have q2:W4.cell? ⟨w3.heap.size,2,none⟩=some (.slice (some ⟨gk',0,none⟩) l[k].symbols.length (H (10+2*k)).cap):=by rw[aa B4];rfl
      have hr4:=hr.still k4;have hO4:aA W4 hd (aD (ee l a k)):=hO.moved (fun x hx=>k4.block x (hO.lt hx) (by simp));have OK4:=hr4.sts.syms k l[k] (List.getElem?_eq_getElem hlt);have hK4:=hK.trans k4;have hsrc:Hid (∀j u,(dO l[k].symbols)[j]?=some u->W4.cell? ((⟨gk',0,none⟩:Addr).add j)=some u):=fun j u hj=>by rw[bK];exact OK4.cell ek j u hj
      clear hW4 hk3 k4 B4 hr hO OK' OK4 hK
      cases hh:io l k a
      ·have HT:Hid (ee l a (k+1)=ee l a k):=rA l a k (by rw[HES.out,hh];simp)
       clear HES;go_wp2_with (go_at_call 187;refine(fA b o k a l H _ (by exact hr4) hlt).mono ?_;rintro e w5 ⟨rfl,rfl⟩)
       go_roundg (l.length-(k+1))
       case measure=>omega
       case rel=>exact⟨k+1,hd,by omega,rfl,by go_num,by rw[HT.out],by rw[HT.out];exact hO4,hN,hK4⟩
      ·have HT:Hid (ee l a (k+1)=ee l a k++l[k].symbols):=by show _=_;rw[uK l a k (by rw[HES.out,hkd,hh];rfl),SY.out]
       clear HES SY;go_wp2_with (first | (go_at_call 187;refine(fA b o k a l H _ (by exact hr4) hlt).mono ?_;rintro e w5 ⟨rfl,rfl⟩) | (at_builtin;refine aM _ rfl (.tmp 32) (.tmp 34) 61 rfl i0 (.string ⟨#[]⟩) 16 hd (aD (ee l a k)) Tryz.underlying61 hi hz0 hz1 hz2 rfl Nat.one_pos rfl (by exact hO4) ⟨gk',0,none⟩ l[k].symbols.length (H (10+2*k)).cap (dO l[k].symbols) rfl ?d0 hsrc.out (ku _) hpk ?d3 ?d4 ?_))
       case d0=>simp[dO,aD]
       case d3=>simp only[aD];unfold maxLen;omega
       case d4=>simp only[aD];omega
       intro g5 cap5 w5 hw5 hgr5 hfresh5;rw[om (ee l a k) l[k].symbols,<-HT.out]at hw5;have hK5:=hK4.grown hgr5 hN
       have hg5:w.heap.size<=g5:=by
        rcases hfresh5 with e | e
        ·exact hN g5 e
        ·exact Nat.le_trans hK4.size e
       have hEl:Hid ((aD (ee l a k)).n+l[k].symbols.length=(ee l a (k+1)).length):=by show _=_;rw[HT.out];simp[aD]
       rw[hEl.out];clear hsrc hgr5 hfresh5 q2 hO4;go_wp2
       go_roundg (l.length-(k+1))
       case measure=>omega
       case rel=>exact⟨k+1,⟨some ⟨g5,0,none⟩,cap5⟩,by omega,rfl,by go_num,rfl,hw5,by intro x hx;simp[Hd.blk]at hx;omega,hK5⟩
   ·have e:k=l.length:=by omega
    subst e;go_wp2_with (go_at_call 80;refine(dR b o l H _ (by exact hr)).mono ?_;rintro e w3 ⟨rfl,rfl⟩);go_ret;exact⟨hd,rfl,hO,hN,hK⟩
end
def pk(l:List St)(syms:List ByteArray)(a n:Nat):Bool:=match l[n]? with | some s=>io l n a&&rP s syms | none=>false
theorem D0(l:List St)(syms:List ByteArray)(a n:Nat)(h:n<l.length):pk l syms a n=(io l n a&&rP l[n] syms):=by
 unfold pk;rw[List.getElem?_eq_getElem h]
def eM(l:List St)(a k:Nat):List Nat:=(List.range k).filter (pk l (gI l a) a)
def bE(l:List St)(a:Nat):List Nat:=eM l a l.length
theorem tU(l:List St)(a k:Nat)(h:pk l (gI l a) a k=true):eM l a (k+1)=eM l a k++[k]:=by
 unfold eM;rw[List.range_succ,List.filter_append];simp[h]
theorem qS(l:List St)(a k:Nat)(h:pk l (gI l a) a k=false):eM l a (k+1)=eM l a k:=by
 unfold eM;rw[List.range_succ,List.filter_append];simp[h]
theorem mD(l:List St)(a k:Nat):(eM l a k).length<=k:=by
 unfold eM;have:=List.length_filter_le (pk l (gI l a) a) (List.range k);simpa using this
theorem BJ(l:List St)(a:Nat)(ok:jH l)(ha:a<l.length):(gI l a).length<=1073741824:=by
 have h1:=uJ l a l.length ok ha (Nat.le_refl _);have h2:=ok.len;have h3:l.length*10000<=10000*10000:=Nat.mul_le_mul_right _ h2;unfold gI;omega
set_option maxRecDepth 100000 in
theorem nG(b o a:Nat)(l:List St)(H:Nat->Hd)(w:World)(h:eu w b o l H)(ha:a<l.length)(ok:jH l) :
  Calls Tryz.prog 142 #[.pointer (some ⟨b,o,none⟩),.int .i64 a] w fun e w'=>∃hd:Hd,e=.returned (.slice hd.ao (bE l a).length hd.cap)/\aA w' hd (bq (bE l a))/\(∀k,hd.blk=some k->w.heap.size<=k)/\ab [] w w':=by
 obtain⟨i0,hi,hz0,hz1,hz2⟩:=info_parts vS;have hlen:=ok.len;have hbw:=h.lt;have hsyl:=BJ l a ok ha;go_enter Tryz.func142,Tryz.ntmps142;go_wp2_with fail;refine(vm b o a l H _ h ha ok).mono ?_;rintro e w1 ⟨hy,rfl,hOy,hNy,hk1⟩;go_wp2
 go_loopg [5,7] l.length (fun gk sv i wr=>∃(k:Nat) (hd:Hd),k<=l.length/\gk=l.length-k/\i=.int .i64 k/\sv=.slice hd.ao (eM l a k).length hd.cap/\aA wr hd (bq (eM l a k))/\(∀x,hd.blk=some x->w1.heap.size<=x)/\ab [] w1 wr)
 case atStart=>exact⟨0,⟨none,0⟩,by omega,by omega,rfl,rfl,World.ownsRow_nil _ _ _ _,by intro x hx;simp[Hd.blk]at hx,ab.refl _ _⟩
 case round =>
  obtain⟨k,hd,hk,hg,rfl,rfl,hO,hN,hK⟩:=hrel;have hr:=(h.still hk1).still hK;have hVy:jh wr hy (gI l a):=(hOy.view).still hK;have hhl:=mD l a k
  by_cases hlt:k<l.length
  ·have HM:=(show Hid _ from D0 l (gI l a) a k hlt)
   have hsk:=ok.syms k hlt;have hVk:=(hr.sts.syms k l[k] (List.getElem?_eq_getElem hlt)).view
   cases hh:io l k a
   ·have HT:Hid (eM l a (k+1)=eM l a k):=qS l a k (by rw[HM.out,hh];rfl)
    clear HM hVk hVy;go_wp2_with (first | (go_at_call 80;refine(dR b o l H _ (by exact hr)).mono ?_;rintro e wc ⟨rfl,rfl⟩) | (go_at_call 187;refine(fA b o k a l H _ (by exact hr) hlt).mono ?_;rintro e wd ⟨rfl,rfl⟩))
    go_roundg (l.length-(k+1))
    case measure=>omega
    case rel=>exact⟨k+1,hd,by omega,rfl,by go_num,by rw[HT.out],by rw[HT.out];exact hO,hN,hK⟩
   ·have ME:=fun(w':World) (v1:jh w' (H (10+2*k)) l[k].symbols) (v2:jh w' hy (gI l a))=>sq l[k] (H (10+2*k)) (H (11+2*k)) hy (gI l a) w' v1 v2 (by omega) hsyl
    have HME:=(show Hid _ from ME);clear ME
    cases hm:rP l[k] (gI l a)
    ·have HT:Hid (eM l a (k+1)=eM l a k):=qS l a k (by rw[HM.out,hm];simp)
     rw[hm]at HME;clear HM;go_wp2_with (first | (go_at_call 80;refine(dR b o l H _ (by exact hr)).mono ?_;rintro e wc ⟨rfl,rfl⟩) | (go_at_call 187;refine(fA b o k a l H _ (by exact hr) hlt).mono ?_;rintro e wd ⟨rfl,rfl⟩) | (go_at_call 97;refine(bb b o k l H _ (by exact hr) hlt).mono ?_;rintro e w3 ⟨rfl,hk3⟩) | (go_at_call 188;refine(HME.out _ (by exact hVk.still hk3) (by exact hVy.still hk3)).mono ?_;rintro e w4 ⟨rfl,hk4⟩))
     go_roundg (l.length-(k+1))
     case measure=>omega
     case rel=>exact⟨k+1,hd,by omega,rfl,by go_num,by rw[HT.out],by rw[HT.out];exact hO.moved (fun x hx=>(hk3.trans hk4).block x (hO.lt hx) (by simp)),hN,(hK.trans hk3).trans hk4⟩
    ·have HT:Hid (eM l a (k+1)=eM l a k++[k]):=tU l a k (by rw[HM.out,hh,hm];rfl)
     rw[hm]at HME;clear HM;go_wp2_with (first | (go_at_call 80;refine(dR b o l H _ (by exact hr)).mono ?_;rintro e wc ⟨rfl,rfl⟩) | (go_at_call 187;refine(fA b o k a l H _ (by exact hr) hlt).mono ?_;rintro e wd ⟨rfl,rfl⟩) | (go_at_call 97;refine(bb b o k l H _ (by exact hr) hlt).mono ?_;rintro e w3 ⟨rfl,hk3⟩) | (go_at_call 188;refine(HME.out _ (by exact hVk.still hk3) (by exact hVy.still hk3)).mono ?_;rintro e w4 ⟨rfl,hk4⟩;have hO4:=hO.moved (fun x hx=>((hk3.trans hk4).alloc (.cells #[.int .i64 k] 3)).block x (hO.lt hx) (by simp))) | (at_builtin;refine aM _ rfl (.tmp 28) (.tmp 30) 26 rfl i0 (.int .i64 0) 8 hd (bq (eM l a k)) Tryz.underlying26 hi hz0 hz1 hz2 rfl Nat.one_pos rfl (by exact hO4) ⟨_,0,none⟩ 1 1 [.int .i64 k] rfl rfl ?d1 ?d2 Nat.one_pos ?d3 ?d4 ?_))
     case d1=>intro j u hj;match j,hj with | 0,hj=>simp at hj;subst hj;simp[Addr.add]
     case d2=>intro u hu;simp at hu;subst hu;rfl
     case d3=>simp only[bq];unfold maxLen;omega
     case d4=>simp only[bq];omega
     intro g5 cap5 w5 hw5 hgr5 hfresh5;rw[kV (eM l a k) k,<-HT.out]at hw5;have hK4:=((hK.trans hk3).trans hk4).alloc (.cells #[.int .i64 k] 3);have hK5:=hK4.grown hgr5 hN
     have hg5:w1.heap.size<=g5:=by
      rcases hfresh5 with e | e
      ·exact hN g5 e
      ·have:=hK4.size;simp at e this;omega
     have hEl:Hid ((bq (eM l a k)).n+1=(eM l a (k+1)).length):=by show _=_;rw[HT.out];simp[bq]
     rw[hEl.out];clear hgr5 hfresh5 hO4;go_wp2
     go_roundg (l.length-(k+1))
     case measure=>omega
     case rel=>exact⟨k+1,⟨some ⟨g5,0,none⟩,cap5⟩,by omega,rfl,by go_num,rfl,hw5,by intro x hx;simp[Hd.blk]at hx;omega,hK5⟩
  ·have e:k=l.length:=by omega
   subst e;have hK':=hk1.trans hK;have hs1:=hk1.size;go_wp2_with (go_at_call 80;refine(dR b o l H _ (by exact hr)).mono ?_;rintro e w3 ⟨rfl,rfl⟩);go_ret;exact⟨hd,rfl,hO,fun x hx=>Nat.le_trans hs1 (hN x hx),hK'⟩
theorem J4:(Tryz.prog.info? 26).map (fun i=>(i.zero,i.size,i.bytes))=some (some (.slice none 0 0),1,24):=by kernel_rfl
theorem xo(v:Value)(n i:Nat)(h:i<n):(madeCells #[v] n)[i]?=some v:=by
 simp[madeCells,h,Nat.mod_one]
def pW(l:List St)(n:Nat):Bool:=match l[n]? with | some s=>CH s.kind | none=>false
theorem xe(l:List St)(n:Nat)(h:n<l.length):pW l n=CH l[n].kind:=by
 unfold pW;rw[List.getElem?_eq_getElem h]
def km(l:List St)(k n:Nat):List Nat:=if n<k/\pW l n=true then bE l n else []
structure fJ(w:World)(g:Nat)(l:List St)(k:Nat)(K:Nat->Hd):Prop where
 arr:∃arr,w.heap[g]?=some (.cells arr 26 (0,0))/\arr.size=l.length/\∀n,n<l.length->arr[n]?=some (.slice (K n).ao (km l k n).length (K n).cap)
 own:∀n,n<l.length->aA w (K n) (bq (km l k n))
 off:∀n,(K n).blk≠some g
theorem fJ.kept{w w':World}{g:Nat}{l:List St}{k:Nat}{K:Nat->Hd}{S:List Nat}(h:fJ w g l k K)(q:ab S w w')(hg:g∉S)(hK:∀n x,(K n).blk=some x->x∉S):fJ w' g l k K:=by
 obtain⟨arr,h1,h2,h3⟩:=h.arr;exact⟨⟨arr,q.get h1 hg,h2,h3⟩,fun n hn=>(h.own n hn).moved (fun x hx=>q.block x ((h.own n hn).lt hx) (hK n x hx)),h.off⟩
theorem fJ.still{w w':World}{g:Nat}{l:List St}{k:Nat}{K:Nat->Hd}(h:fJ w g l k K)(q:ab [] w w'):fJ w' g l k K:=h.kept q (by simp) (by simp)
theorem fJ.cell{w:World}{g:Nat}{l:List St}{k:Nat}{K:Nat->Hd}(h:fJ w g l k K)(n:Nat)(hn:n<l.length):w.cell? ⟨g,n,none⟩=some (.slice (K n).ao (km l k n).length (K n).cap):=by
 obtain⟨arr,h1,h2,h3⟩:=h.arr;rw[aa h1];exact h3 n hn
theorem fJ.free{w:World}{g:Nat}{l:List St}{k:Nat}{K:Nat->Hd}(h:fJ w g l k K)(n:Nat):w.frozen? ⟨g,n,none⟩=false:=by
 obtain⟨arr,h1,h2,h3⟩:=h.arr;exact ak h1 n
theorem fJ.lt{w:World}{g:Nat}{l:List St}{k:Nat}{K:Nat->Hd}(h:fJ w g l k K):g<w.heap.size:=by
 obtain⟨arr,h1,h2,h3⟩:=h.arr;exact ae h1
theorem fJ.skip{w:World}{g:Nat}{l:List St}{k:Nat}{K:Nat->Hd}(h:fJ w g l k K)(hk:pW l k=false):fJ w g l (k+1) K:=by
 have e:∀n,km l (k+1) n=km l k n:=by
  intro n;unfold km
  by_cases en:n=k
  ·subst en;rw[if_neg (by rw[hk];simp),if_neg (by rw[hk];simp)]
  ·have:(n<k+1/\pW l n=true) ↔ (n<k/\pW l n=true):=and_congr_left (fun _=>by omega)
   simp only[this]
 obtain⟨arr,h1,h2,h3⟩:=h.arr;exact⟨⟨arr,h1,h2,fun n hn=>by rw[e];exact h3 n hn⟩,fun n hn=>by rw[e];exact h.own n hn,h.off⟩
theorem fJ.store{w:World}{g:Nat}{l:List St}{k:Nat}{K:Nat->Hd}(h:fJ w g l k K)(hk:pW l k=true)(hkl:k<l.length)(hd:Hd)(o:aA w hd (bq (bE l k)))(hg:hd.blk≠some g) :
  fJ (w.setCell ⟨g,k,none⟩ (.slice hd.ao (bE l k).length hd.cap)) g l (k+1) (fM K k hd):=by
 have e:∀n,n≠k->km l (k+1) n=km l k n:=by
  intro n en;unfold km;have:(n<k+1/\pW l n=true) ↔ (n<k/\pW l n=true):=and_congr_left (fun _=>by omega);simp only[this]
 have ek:km l (k+1) k=bE l k:=by unfold km;rw[if_pos ⟨by omega,hk⟩]
 obtain⟨arr,h1,h2,h3⟩:=h.arr;refine⟨⟨_,ah h1 _ _,by simpa using h2,?_⟩,?_,?_⟩
 ·intro n hn
  by_cases en:n=k
  ·subst en
   rw[cK,ek];simp[h2,hn]
  ·rw[bL _ _ _ _ en,e n en]
   rw[Array.getElem?_setIfInBounds_ne (by omega)];exact h3 n hn
 ·intro n hn
  by_cases en:n=k
  ·subst en
   rw[cK,ek];exact o.moved (fun x hx=>Below.heap_setCell _ _ _ _ (by rintro rfl;exact hg hx))
  ·rw[bL _ _ _ _ en,e n en]
   exact(h.own n hn).moved (fun x hx=>Below.heap_setCell _ _ _ _ (by rintro rfl;exact h.off n hx))
 ·intro n
  by_cases en:n=k
  ·subst en;rw[cK];exact hg
  ·rw[bL _ _ _ _ en];exact h.off n
set_option maxRecDepth 100000 in
theorem pI(b o:Nat)(l:List St)(H:Nat->Hd)(w:World)(h:eu w b o l H)(ok:jH l) :
  Calls Tryz.prog 113 #[.pointer (some ⟨b,o,none⟩)] w fun e w'=>∃(g:Nat) (K:Nat->Hd),e=.returned (.slice (some ⟨g,0,none⟩) l.length l.length)/\fJ w' g l l.length K/\w.heap.size<=g/\(∀n x,(K n).blk=some x->w.heap.size<=x)/\ab [] w w':=by
 obtain⟨i0,hi,hz0,hz1,hz2⟩:=info_parts J4;have hlen:=ok.len;have hbw:=h.lt;have m1:=fun w=>dn (P:=Tryz.prog) w 181 26 i0 _ Tryz.underlying181 hi hz0 l.length 1 hz1 (by rw[hz2];omega) (by omega)
 obtain⟨mc,hmc⟩:∃mc,mc=madeCells (Value.slice none 0 0).cells (l.length*1):=⟨_,rfl⟩
 rw[<-hmc]at m1
 have A0:Hid (fJ (w.alloc (.cells mc 26)) w.heap.size l 0 ln):=by
  refine⟨⟨mc,heap_alloc_new _ _,by rw[hmc,size_madeCells];omega,?_⟩,?_,fun n e=>by simp[ln,Hd.blk]at e⟩
  ·intro n hn
   have e:km l 0 n=[]:=by unfold km;rw[if_neg (by omega)]
   rw[e,hmc];exact xo _ _ _ (by omega)
  ·intro n hn
   have e:km l 0 n=[]:=by unfold km;rw[if_neg (by omega)]
   rw[e];exact World.ownsRow_nil _ _ _ _
 clear hmc;go_enter Tryz.func113,Tryz.ntmps113;go_wp2_with (go_at_call 80;refine(dR b o l H _ (by exact h)).mono ?_;rintro e wc ⟨rfl,hwc⟩;rw[hwc])
 go_loopg [4] l.length (fun gk i wr=>∃(k:Nat) (K:Nat->Hd),k<=l.length/\gk=l.length-k/\i=.int .i64 k/\fJ wr w.heap.size l k K/\(∀n x,(K n).blk=some x->w.heap.size<=x)/\ab [] w wr)
 case atStart=>exact⟨0,ln,by omega,by omega,rfl,A0.out,fun n x hx=>by simp[ln,Hd.blk]at hx,(ab.refl _ _).alloc _⟩
 case round =>
  obtain⟨k,K,hk,hg,rfl,hA,hN,hK⟩:=hrel;have hr:=h.still hK;clear A0 m1
  by_cases hlt:k<l.length
  ·have HI:=(show Hid _ from xe l k hlt)
   cases ha:CH l[k].kind
   ·have HS:Hid (fJ wr w.heap.size l (k+1) K):=hA.skip (by rw[HI.out,ha])
    clear HI;go_wp2_with (first | (go_at_call 97;refine(bb b o k l H _ (by exact hr) hlt).mono ?_;rintro e w3 ⟨rfl,hk3⟩;unfold eI) | (go_at_call 160;refine(dr l[k].kind _ _ _ _ _ _ _ _).mono ?_;rintro e w4 ⟨rfl,hk4⟩))
    go_roundg (l.length-(k+1))
    case measure=>omega
    case rel=>exact⟨k+1,K,by omega,rfl,by go_num,(HS.out.still hk3).still hk4,hN,(hK.trans hk3).trans hk4⟩
   ·go_wp2_with (first | (go_at_call 97;refine(bb b o k l H _ (by exact hr) hlt).mono ?_;rintro e w3 ⟨rfl,hk3⟩;unfold eI) | (go_at_call 160;refine(dr l[k].kind _ _ _ _ _ _ _ _).mono ?_;rintro e w4 ⟨rfl,hk4⟩))
    have hk34:=hk3.trans hk4;refine(nG b o k l H _ (hr.still hk34) hlt ok).mono ?_;rintro e w5 ⟨hd,rfl,hO5,hN5,hk5⟩;have hA5:=(hA.still hk34).still hk5;have hgl:=(hA.still hk34).lt;have hng:hd.blk≠some w.heap.size:=fun e=>by have:=hN5 _ e;omega
    have HS:=(show Hid _ from hA5.store (by rw[HI.out,ha]) hlt hd hO5 hng);have hK5:=(hK.trans hk34).trans hk5;have hs3:=(hK.trans hk34).size
    have HN':Hid (∀n x,(fM K k hd n).blk=some x->w.heap.size<=x):=by
     intro n x hx
     by_cases e:n=k
     ·subst e;rw[cK]at hx;have:=hN5 x hx;omega
     ·rw[bL _ _ _ _ e]at hx;exact hN n x hx
    have c1:=hA5.cell k hlt;have hf:=hA5.free;clear hN5 hO5;go_wp2
    go_roundg (l.length-(k+1))
    case measure=>omega
    case rel=>exact⟨k+1,fM K k hd,by omega,rfl,by go_num,HS.out,HN'.out,hK5.setCell (Or.inr (Nat.le_refl _)) _⟩
  ·have e:k=l.length:=by omega
   subst e;go_wp2;go_ret;exact⟨w.heap.size,K,rfl,hA,Nat.le_refl _,hN,hK⟩
def oF(vs:List ByteArray)(x:ByteArray):Option Nat:=(List.range vs.length).find? (fun i=>(vs.getD i ⟨#[]⟩).toList==x.toList)
def pL(l:List Bool):List Value:=l.map Value.bool
def nQ(l:List Bool):dK:=⟨4,1,l.length,pL l⟩
structure jC(w:World)(tb:Nat)(vs:List ByteArray)(ms:List Bool)(hv hm:Hd):Prop where
 blk:w.heap[tb]?=some (.cells #[.slice hv.ao vs.length hv.cap,.slice hm.ao ms.length hm.cap] 327 (0,0))
 vars:aA w hv (aD vs)
 marks:aA w hm (nQ ms)
 o1:hv.blk≠some tb
 o2:hm.blk≠some tb
 o3:hv.blk=none∨hv.blk≠hm.blk
theorem jC.cells{w:World}{tb:Nat}{vs:List ByteArray}{ms:List Bool}{hv hm:Hd}(h:jC w tb vs ms hv hm):w.cell? ⟨tb,0,none⟩=some (.slice hv.ao vs.length hv.cap)/\w.cell? ⟨tb,1,none⟩=some (.slice hm.ao ms.length hm.cap):=by
 refine⟨?_,?_⟩ <;> (rw[aa h.blk];rfl)
theorem jC.lt{w:World}{tb:Nat}{vs:List ByteArray}{ms:List Bool}{hv hm:Hd}(h:jC w tb vs ms hv hm):tb<w.heap.size:=ae h.blk
theorem jC.kept{w w':World}{tb:Nat}{vs:List ByteArray}{ms:List Bool}{hv hm:Hd}{S:List Nat}(h:jC w tb vs ms hv hm)(k:ab S w w')(h1:tb∉S)(h2:∀x,hv.blk=some x∨hm.blk=some x->x∉S):jC w' tb vs ms hv hm :=
 ⟨k.get h.blk h1,h.vars.moved (fun x hx=>k.block x (h.vars.lt hx) (h2 x (Or.inl hx))),h.marks.moved (fun x hx=>k.block x (h.marks.lt hx) (h2 x (Or.inr hx))),h.o1,h.o2,h.o3⟩
theorem jC.still{w w':World}{tb:Nat}{vs:List ByteArray}{ms:List Bool}{hv hm:Hd}(h:jC w tb vs ms hv hm)(k:ab [] w w'):jC w' tb vs ms hv hm:=h.kept k (by simp) (by simp)
theorem qh(tb:Nat)(vs:List ByteArray)(ms:List Bool)(hv hm:Hd)(x:ByteArray)(w:World)(h:jC w tb vs ms hv hm)(hl:vs.length<=1073741824) :
  Calls Tryz.prog 260 #[.pointer (some ⟨tb,0,none⟩),.string x] w fun e w'=>e=.returned (.int .i64 (nK (oF vs x)))/\w'=w:=by
 obtain⟨c0,c1⟩:=h.cells;go_enter Tryz.func260,Tryz.ntmps260;go_wp2
 go_loopg [5] vs.length (fun g i wr=>∃k:Nat,k<=vs.length/\g=vs.length-k/\i=.int .i64 k/\Hid (∀i,i<k->((vs.getD i ⟨#[]⟩).toList==x.toList)=false)/\wr=w)
 case atStart=>exact⟨0,by omega,by omega,rfl,fun i hi=>by omega,rfl⟩
 case round =>
  obtain⟨k,hk,hg,rfl,hall,rfl⟩:=hrel
  by_cases hlt:k<vs.length
  ·rcases h.vars.ways with ⟨_,h0,_⟩ | ⟨g,cur,e1,-,e3,-⟩
   ·have:vs.length=0:=h0
    omega
   ·have c2:=h.vars.cell e1 k (.string vs[k]) (qu vs k hlt)
    rw[e1]at c0;have HG:=(show Hid _ from sG vs k hlt);have hcp:vs.length<=hv.cap:=e3;generalize vs[k]=y at *
    cases hb:(y.toList==x.toList)
    ·have HN:Hid (∀i,i<k+1->((vs.getD i ⟨#[]⟩).toList==x.toList)=false):=by
      intro i hi
      by_cases e:i=k
      ·subst e;rw[HG.out];exact hb
      ·exact hall.out i (by omega)
     clear HG h;go_wp2
     go_roundg (vs.length-(k+1))
     case measure=>omega
     case rel=>exact⟨k+1,by omega,rfl,by go_num,HN,rfl⟩
    ·have HF:Hid (oF vs x=some k):=oh hlt (by rw[HG.out];exact hb) hall.out
     clear HG h;go_wp2;go_ret;exact⟨am (by rw[HF.out];rfl),rfl⟩
  ·have HF:Hid (oF vs x=none):=mR (fun i hi=>hall.out i (by omega))
   clear h;go_wp2;go_ret;exact⟨am (by rw[HF.out];rfl),rfl⟩
def bO(vs ws:List ByteArray):List Nat:=ws.filterMap (oF vs)
theorem ui(vs ws:List ByteArray)(k p:Nat)(h:k<ws.length)(hp:oF vs ws[k]=some p):bO vs (ws.take (k+1))=bO vs (ws.take k)++[p]:=by
 unfold bO;rw[mn ws k h,List.filterMap_append];simp[hp]
theorem uh(vs ws:List ByteArray)(k:Nat)(h:k<ws.length)(hp:oF vs ws[k]=none):bO vs (ws.take (k+1))=bO vs (ws.take k):=by
 unfold bO;rw[mn ws k h,List.filterMap_append];simp[hp]
theorem oO(vs ws:List ByteArray):(bO vs ws).length<=ws.length:=List.length_filterMap_le _ _
set_option maxRecDepth 100000 in
theorem vi(tb:Nat)(vs:List ByteArray)(ms:List Bool)(hv hm hw:Hd)(ws:List ByteArray)(w:World)(h:jC w tb vs ms hv hm)(hl:vs.length<=1073741824)(hvw:jh w hw ws)(hwl:ws.length<=1000000) :
  Calls Tryz.prog 238 #[.pointer (some ⟨tb,0,none⟩),.slice hw.ao ws.length hw.cap] w fun e w'=>∃hd:Hd,e=.returned (.slice hd.ao (bO vs ws).length hd.cap)/\aA w' hd (bq (bO vs ws))/\(∀x,hd.blk=some x->w.heap.size<=x)/\ab [] w w':=by
 obtain⟨i0,hi,hz0,hz1,hz2⟩:=info_parts vS;obtain⟨ao,cap⟩:=hw
 rcases hvw with rfl | ⟨g,off,cur,t,e1,e2,e3,e4,e5⟩
 ·clear hwl
  go_enter Tryz.func238,Tryz.ntmps238;go_wp2;refine wp_loop_rounds 1 ?_;rw[rounds_succ];go_wp2;go_ret;exact⟨⟨none,0⟩,rfl,World.ownsRow_nil _ _ _ _,by intro x hx;simp[Hd.blk]at hx,ab.refl _ _⟩
 simp only at e1;subst e1;go_enter Tryz.func238,Tryz.ntmps238;go_wp2
 go_loopg [5,6] ws.length (fun gk sv i wr=>∃(k:Nat) (hd:Hd),k<=ws.length/\gk=ws.length-k/\i=.int .i64 k/\sv=.slice hd.ao (bO vs (ws.take k)).length hd.cap/\aA wr hd (bq (bO vs (ws.take k)))/\(∀x,hd.blk=some x->w.heap.size<=x)/\ab [] w wr)
 case atStart=>exact⟨0,⟨none,0⟩,by omega,by omega,rfl,rfl,World.ownsRow_nil _ _ _ _,by intro x hx;simp[Hd.blk]at hx,ab.refl _ _⟩
 case round =>
  obtain⟨k,hd,hk,hg,rfl,rfl,hO,hN,hK⟩:=hrel;have hr:=h.still hK;have hlp:=oO vs (ws.take k);have hlt':(ws.take k).length<=k:=by simp;omega
  by_cases hlt:k<ws.length
  ·have c2:wr.cell? ⟨g,off+k,none⟩=some (.string ws[k]):=(aa (hK.get e2 (by simp)) (off+k)).trans (e3 k ws[k] (List.getElem?_eq_getElem hlt))
   ·skip
    have PS:=fun p=>ui vs ws k p hlt
    have PN:=uh vs ws k hlt;have HPS:=(show Hid _ from PS);have HPN:=(show Hid _ from PN);have PA:=qh tb vs ms hv hm ws[k] wr hr hl;have HPA:=(show Hid _ from PA);clear PS PN PA e3;generalize ws[k]=y at *
    rcases hp:oF vs y with _ | p
    ·have HT:=(show Hid _ from HPN.out hp)
     rw[hp]at HPA;simp only[nK]at HPA;clear HPS HPN;go_wp2_with (go_at_call 260;refine Calls.mono HPA.out ?_;rintro e w3 ⟨rfl,rfl⟩)
     go_roundg (ws.length-(k+1))
     case measure=>omega
     case rel=>exact⟨k+1,hd,by omega,rfl,by go_num,by rw[HT.out],by rw[HT.out];exact hO,hN,hK⟩
    ·have HT:=(show Hid _ from HPS.out p hp)
     rw[hp]at HPA;simp only[nK]at HPA;have hO4:=hO.moved (fun x hx=>((ab.refl [] wr).alloc (.cells #[.int .i64 p] 3)).block x (hO.lt hx) (by simp));clear HPS HPN;go_wp2_with (first | (go_at_call 260;refine Calls.mono HPA.out ?_;rintro e w3 ⟨rfl,hw3⟩;rw[hw3]) | (at_builtin;refine aM _ rfl (.tmp 22) (.tmp 24) 26 rfl i0 (.int .i64 0) 8 hd (bq (bO vs (ws.take k))) Tryz.underlying26 hi hz0 hz1 hz2 rfl Nat.one_pos rfl (by exact hO4) ⟨_,0,none⟩ 1 1 [.int .i64 p] rfl rfl ?d1 ?d2 Nat.one_pos ?d3 ?d4 ?_))
     case d1=>intro j u hj;match j,hj with | 0,hj=>simp at hj;subst hj;simp[Addr.add]
     case d2=>intro u hu;simp at hu;subst hu;rfl
     case d3=>simp only[bq];unfold maxLen;omega
     case d4=>simp only[bq];omega
     intro g5 cap5 w5 hw5 hgr5 hfresh5;rw[kV (bO vs (ws.take k)) p,<-HT.out]at hw5;have hK4:=hK.alloc (.cells #[.int .i64 p] 3);have hK5:=hK4.grown hgr5 hN
     have hg5:w.heap.size<=g5:=by
      rcases hfresh5 with e | e
      ·exact hN g5 e
      ·have:=hK4.size;simp at e this;omega
     have hEl:Hid ((bq (bO vs (ws.take k))).n+1=(bO vs (ws.take (k+1))).length):=by show _=_;rw[HT.out];simp[bq]
     rw[hEl.out];clear hgr5 hfresh5 hO4;go_wp2
     go_roundg (ws.length-(k+1))
     case measure=>omega
     case rel=>exact⟨k+1,⟨some ⟨g5,0,none⟩,cap5⟩,by omega,rfl,by go_num,rfl,hw5,by intro x hx;simp[Hd.blk]at hx;omega,hK5⟩
  ·have e:k=ws.length:=by omega
   subst e;rw[List.take_length]at hO ⊢;go_wp2;go_ret;exact⟨hd,rfl,hO,hN,hK⟩
def mJ(side mi:Nat)(mem:List Nat)(ms:List Bool):List Bool:=mem.foldl (fun ms mj=>ms.set (mi*side+mj) true) ms
def lm(side:Nat)(mem:List Nat)(ms:List Bool):List Bool:=mem.foldl (fun ms mi=>mJ side mi mem ms) ms
def iA(side:Nat)(mem:List Nat)(ms:List Bool)(i j:Nat):List Bool:=mJ side (mem.getD i 0) (mem.take j) ((mem.take i).foldl (fun ms mi=>mJ side mi mem ms) ms)
theorem rQ(side mi:Nat)(mem:List Nat)(ms:List Bool):(mJ side mi mem ms).length=ms.length:=by
 unfold mJ
 induction mem generalizing ms with
 | nil=>rfl
 | cons a r ih=>rw[List.foldl_cons,ih];simp
theorem p9(side:Nat)(mem r:List Nat)(ms:List Bool):(r.foldl (fun ms mi=>mJ side mi mem ms) ms).length=ms.length:=by
 induction r generalizing ms with
 | nil=>rfl
 | cons a r ih=>rw[List.foldl_cons,ih,rQ]
theorem iU(side:Nat)(mem:List Nat)(ms:List Bool)(i j:Nat):(iA side mem ms i j).length=ms.length:=by
 unfold iA;rw[rQ,p9]
theorem zc(side:Nat)(mem:List Nat)(ms:List Bool)(i j:Nat)(hj:j<mem.length):iA side mem ms i (j+1)=(iA side mem ms i j).set (mem.getD i 0*side+mem[j]) true:=by
 unfold iA mJ;rw[mn mem j hj,List.foldl_append];rfl
theorem AZ(side:Nat)(mem:List Nat)(ms:List Bool)(i:Nat)(hi:i<mem.length):iA side mem ms i mem.length=iA side mem ms (i+1) 0:=by
 have e:mem.getD i 0=mem[i]:=by rw[List.getD_eq_getElem?_getD,List.getElem?_eq_getElem hi];rfl
 unfold iA;rw[List.take_length,mn mem i hi,List.foldl_append,e];rfl
theorem AY(side:Nat)(mem:List Nat)(ms:List Bool):iA side mem ms mem.length 0=lm side mem ms:=by
 unfold iA lm;rw[List.take_length];rfl
theorem vF(l:List Bool):(pL l).length=l.length*1:=by simp[pL]
theorem jC.mark{w:World}{tb:Nat}{vs:List ByteArray}{ms:List Bool}{hv hm:Hd}(h:jC w tb vs ms hv hm)(gm:Nat)(e:hm.ao=some ⟨gm,0,none⟩)(i:Nat)(hi:i<ms.length) :
  jC (w.setCell ⟨gm,i,none⟩ (.bool true)) tb vs (ms.set i true) hv hm:=by
 have hb:hm.blk=some gm:=by unfold Hd.blk;rw[e];rfl
 refine⟨?_,?_,?_,h.o1,h.o2,h.o3⟩
 ·rw[Below.heap_setCell _ _ _ _ (by rintro rfl;exact h.o2 hb),h.blk];simp
 ·refine h.vars.moved (fun x hx=>Below.heap_setCell _ _ _ _ ?_)
  rintro rfl
  rcases h.o3 with a | a
  ·rw[a]at hx;cases hx
  ·exact a (hx.trans hb.symm)
 ·rcases h.marks.ways with ⟨_,h0,_⟩ | ⟨g,cur,e1,e2,e3,e4,e5,e6⟩
  ·have:ms.length=0:=h0
   omega
  ·have:g=gm:=by rw[e]at e1;injection e1 with e1;injection e1 with e1;exact e1.symm
   subst this;refine⟨by simp only[nQ];rw[vF],Or.inr ⟨g,hm.cap,cur.setIfInBounds i (.bool true),?_,Nat.zero_le _,ah e2 _ _,?_,e4,?_,?_⟩⟩
   ·simp[nQ,e]
   ·simpa [nQ] using e3
   ·simpa [nQ] using e5
   ·have e6':cur.toList.take (ms.length*1)=pL ms:=e6
    simp only[nQ,List.length_set,Array.toList_setIfInBounds,List.take_set,e6'];simp[pL,List.map_set]
theorem kc(l:List Nat)(k:Nat)(h:k<l.length):(iW l)[k]?=some (.int .i64 l[k]):=by simp[iW,h]
set_option maxRecDepth 100000 in
theorem za(tb:Nat)(vs:List ByteArray)(ms:List Bool)(hv hm hw:Hd)(mem:List Nat)(w:World)(h:jC w tb vs ms hv hm)(hml:ms.length=vs.length*vs.length)(hvl:vs.length<=10000)(hO:aA w hw (bq mem))(hmm:mem.length<=1000000)
  (hin:∀i (hi:i<mem.length),mem[i]<vs.length) (hne:∀x,hw.blk=some x->hm.blk≠some x) :
  Calls Tryz.prog 237 #[.pointer (some ⟨tb,0,none⟩),.slice hw.ao mem.length hw.cap] w fun e w'=>e=.returned (.tuple #[])/\jC w' tb vs (lm vs.length mem ms) hv hm/\dQ (fun k=>hm.blk=some k) w w':=by
 obtain⟨ao,cap⟩:=hw
 rcases hO.ways with ⟨e0,h0,_⟩ | ⟨g,cur,e1,e2,e3,e4,-⟩
 ·have h0':mem.length=0:=h0
  have hl0:mem=[]:=List.eq_nil_of_length_eq_zero h0';subst hl0;clear hO h0 h0' e0 hmm hin hne;go_enter Tryz.func237,Tryz.ntmps237;go_wp2;refine wp_loop_rounds 1 ?_;rw[rounds_succ];go_wp2;go_end0;exact⟨rfl,h,dQ.refl _ _⟩
 simp only at e1 e3 e4;have hcp:mem.length<=cap:=e3;have e4':cap<=9223372036854775807:=by unfold maxLen at e4;exact e4
 subst e1;have hgb:hm.blk≠some g:=hne g rfl;go_enter Tryz.func237,Tryz.ntmps237;go_wp2
 go_loopg [4] mem.length (fun gk i wr=>∃k:Nat,k<=mem.length/\gk=mem.length-k/\i=.int .i64 k/\jC wr tb vs (iA vs.length mem ms k 0) hv hm/\dQ (fun k=>hm.blk=some k) w wr)
 case atStart=>exact⟨0,by omega,by omega,rfl,h,dQ.refl _ _⟩
 case round =>
  obtain⟨k,hk,hg,rfl,hA,hK⟩:=hrel
  by_cases hlt:k<mem.length
  ·have HR:=(show Hid _ from AZ vs.length mem ms k hlt)
   go_wp2_with fail
   go_loopg [5] mem.length (fun gk2 i2 wr2=>∃j:Nat,j<=mem.length/\gk2=mem.length-j/\i2=.int .i64 j/\jC wr2 tb vs (iA vs.length mem ms k j) hv hm/\dQ (fun k=>hm.blk=some k) w wr2)
   case atStart=>exact⟨0,by omega,by omega,rfl,hA,hK⟩
   case round =>
    obtain⟨j,hj,hg2,rfl,hA2,hK2⟩:=hrel;clear hA hK
    by_cases hlj:j<mem.length
    ·have hxk:=hin k hlt
     have hxj:=hin j hlj;have hOw:aA wr ⟨some ⟨g,0,none⟩,cap⟩ (bq mem):=hO.moved (fun x hx=>hK2.block x (hO.lt hx) (fun e=>hne x hx e));have p1:=hOw.cell rfl k (.int .i64 mem[k]) (kc mem k hlt);have p2:=hOw.cell rfl j (.int .i64 mem[j]) (kc mem j hlj);obtain⟨c0,c1⟩:=hA2.cells;rw[iU]at c1;have ST:=zc vs.length mem ms k j hlj;have eg:mem.getD k 0=mem[k]:=by rw[List.getD_eq_getElem?_getD,List.getElem?_eq_getElem hlt];rfl
     rw[eg]at ST
     have hb1:mem[k]*vs.length+mem[j]<ms.length:=by
      rw[hml];have:(mem[k]+1)*vs.length<=vs.length*vs.length:=Nat.mul_le_mul_right _ hxk;rw[Nat.add_mul]at this;omega
     have hb2:mem[k]*vs.length<=10000*10000:=Nat.mul_le_mul (by omega) hvl;have HMK:=(show Hid _ from fun gm e=>hA2.mark gm e (mem[k]*vs.length+mem[j]) (by rw[iU];exact hb1));have HST:=(show Hid _ from ST)
     rcases hA2.marks.ways with ⟨_,h0,_⟩ | ⟨gm,curm,em,em2,em3,-⟩
     ·have:(iA vs.length mem ms k j).length=0:=h0
      rw[iU]at this;omega
     ·have em3':ms.length<=hm.cap:=by have:(iA vs.length mem ms k j).length<=hm.cap:=em3;rw[iU]at this;exact this
      have hfm:=ak em2;have hgm:=ae em2;have p3:=hA2.marks.cell em (mem[k]*vs.length+mem[j]) (.bool ((iA vs.length mem ms k j)[mem[k]*vs.length+mem[j]]'(by rw[iU];exact hb1))) (by simp[nQ,pL,iU,hb1]);rw[em]at c1;clear ST em2 em3 hOw;generalize (iA vs.length mem ms k j)[mem[k]*vs.length+mem[j]]'(by rw[iU];exact hb1)=old at *;generalize hx:mem[k]=x at *;generalize hy:mem[j]=y at *;obtain⟨q,hq⟩:∃q,x*vs.length=q:=⟨_,rfl⟩
      have hq':(x:Int)*(vs.length:Int)=(q:Int):=by rw[<-hq];simp
      rw[hq]at hb1 hb2 p3 HMK HST;clear hx hy eg;go_wp2_with fail
      go_quiet (fail)
      go_wp2
      go_roundg (mem.length-(j+1))
      case measure=>omega
      case rel=>exact⟨j+1,by omega,rfl,by go_num,by rw[HST.out];exact(HMK.out gm em).still ((ab.refl [] _).drewN nq),(hK2.still ((ab.refl [] _).drewN nq)).setCell (Or.inl (by unfold Hd.blk;rw[em];rfl)) _⟩
    ·have e:j=mem.length:=by omega
     subst e;rw[HR.out]at hA2;go_wp2
     go_roundg (mem.length-(k+1))
     case measure=>omega
     case rel=>exact⟨k+1,by omega,rfl,by go_num,hA2,hK2⟩
  ·have e:k=mem.length:=by omega
   subst e;rw[AY]at hA;go_wp2;go_end0;exact⟨rfl,hA,hK⟩
end Go.Proofs.YtpddjjabfbfifaaGreat

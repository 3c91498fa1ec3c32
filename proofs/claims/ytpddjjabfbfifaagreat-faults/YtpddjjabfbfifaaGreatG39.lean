import Derived.Test.YtpddjjabfbfifaaGreatG35
import Derived.Test.YtpddjjabfbfifaaGreatG36
namespace Go.Proofs.YtpddjjabfbfifaaGreat
open Go.RowKit
set_option maxHeartbeats 40000000
theorem gU{l m:List UInt8}{x:ByteArray}(h:(x.toList==l)=true):(x.toList==m)=(l==m):=by
 have:x.toList=l:=by simpa using h
 rw[this]
section
variable {T:List Tk} {S:List Sm} {f:Nat}
structure ut(T:List Tk)(S:List Sm)(j:Nat):Prop where
 le:(au S j).h<=(au S j).z-1
 zt:(au S j).z<=T.length
 pos:0<(au S j).z
 dot:((tS T ((au S j).z-1)).toList == [36,46])=true
 cl:f9 (au S j).k (eF T (au S j).h ((au S j).z-1))=0
 w:∀q,(au S j).h<=q->q<(au S j).z-1->kl T S (au S j).k (tS T q) j (eF T (au S j).h q)=0/\bY (tS T q)=false
theorem nG(p:Ab T T.length S f)(hall:∀q,q<T.length->a9 T S q=0)(j:Nat)(h:j<S.length)(hk:bY (au S j).k=false):ut T S j:=by
 have hW:=CW p j h;obtain⟨P,hzT⟩:=p.s j h
 have core:(au S j).h<=(au S j).z-1->(au S j).a<(au S j).h->ut T S j:=fun hle hah=>by
  have hlt:=P.lt;have L0:=hall ((au S j).z-1) (by omega);rw[hW ((au S j).z-1) (by omega) (by omega),if_neg (by omega),if_neg (by omega)]at L0;obtain⟨d1,d2⟩:=sS P.e L0;refine⟨hle,hzT,by omega,d1,d2,fun q h1 h2=>?_⟩;have Q:=hall q (by omega);rw[hW q (by omega) (by omega),if_neg (by omega),if_neg (by omega)]at Q;exact⟨Q,P.n q (by omega) h2⟩
 have ky:=P.k;have lt:=P.lt;unfold ed at ky
 by_cases hA:(fZ (tS T (au S j).a) ⟨#[36]⟩||decide (T.length<=(au S j).a+1))=true
 ·rw[if_pos hA]at ky
  have e1:(au S j).k=tS T (au S j).a:=congrArg Prod.fst ky;have e2:(au S j).h=(au S j).a+1:=congrArg Prod.snd ky;refine core ?_ (by omega)
  by_cases hz:(au S j).z-1=(au S j).a
  ·have:=P.e
   rw[hz,<-e1,hk]at this
   cases this
  ·omega
 ·rw[if_neg hA]at ky
  have e1:(au S j).k=tS T ((au S j).a+1):=congrArg Prod.fst ky;have e2:(au S j).h=(au S j).a+2:=congrArg Prod.snd ky
  have hno:fZ (tS T (au S j).a) ⟨#[36]⟩=false:=by
   cases e:fZ (tS T (au S j).a) ⟨#[36]⟩
   ·rfl
   ·rw[e]at hA;exact absurd rfl hA
  refine core ?_ (by omega)
  have hz1:(au S j).z-1≠(au S j).a:=fun e=>by
   have:=(ko P.e).1;rw[e,hno]at this;cases this
  have hz2:(au S j).z-1≠(au S j).a+1:=fun e=>by
   have:=P.e;rw[e,<-e1,hk]at this;cases this
  omega
theorem qq(T:List Tk)(h i q:Nat)(h1:h+q<i)(h2:i<=T.length):(eF T h i).getD q ⟨#[]⟩=tS T (h+q):=by
 unfold eF tS;rw[List.getD_eq_getElem?_getD,List.getElem?_map,List.getElem?_take,if_pos (by omega),List.getElem?_drop,List.getD_eq_getElem?_getD];rw[List.getElem?_eq_getElem (by omega)];rfl
theorem nz(T:List Tk)(h i:Nat)(h1:h<=i)(h2:i<=T.length):(eF T h i).length=i-h:=by
 unfold eF;rw[List.length_map,List.length_take,List.length_drop];omega
theorem uK{j:Nat}(P:ut T S j):bV T (au S j).h=(eF T (au S j).h ((au S j).z-1)).takeWhile jF:=by
 have hzl:=P.zt;have hz0:=P.pos;have hle:=P.le;unfold bV
 have e:T.drop (au S j).h=(T.drop (au S j).h).take ((au S j).z-1-(au S j).h)++(T.getD ((au S j).z-1) ic) :: T.drop (au S j).z:=by
  conv=>lhs;rw[<-List.take_append_drop ((au S j).z-1-(au S j).h) (T.drop (au S j).h)]
  rw[List.drop_drop,show(au S j).h+((au S j).z-1-(au S j).h)=(au S j).z-1 by omega,Cu T ((au S j).z-1) (by omega),show(au S j).z-1+1=(au S j).z by omega]
 rw[e,show ∀(L:List Tk) (t:Tk) (M:List Tk),L++t :: M=(L++[t])++M from fun L t M=>by simp,vO]
 ·rw[xX _ _ (fun u hu=>?_) P.dot]
  ·rfl
  ·obtain⟨q,hq,e2⟩:=List.getElem_of_mem hu
   rw[List.length_take,List.length_drop]at hq;have:=(P.w ((au S j).h+q) (by omega) (by omega)).2;unfold bY at this;simp only[Bool.or_eq_false_iff]at this
   have e3:u.s=tS T ((au S j).h+q):=by
    rw[<-e2,List.getElem_take,List.getElem_drop];unfold tS;rw[List.getD_eq_getElem?_getD,List.getElem?_eq_getElem (by omega)];rfl
   rw[e3];exact this.1.1
 ·exact⟨T.getD ((au S j).z-1) ic,by simp,pT P.dot⟩
theorem qT{j:Nat}(P:ut T S j):eE T (au S j).h:=⟨(au S j).z-1,P.le,by have:=P.zt;have:=P.pos;omega,pT P.dot⟩
theorem sD{key x:ByteArray}{n:Nat}{B:List ByteArray}(h:kl T S key x n B=0)(hx:(x.toList == [36,61])=true):(key.toList == [36,112])=true/\aI B ⟨#[36,61]⟩=false/\B.length≠0:=by
 unfold kl at h;rw[gU hx (m:=[36,46]),if_neg (by decide),hx,Bool.true_and]at h
 cases h1:(key.toList == [36,112])
 ·rw[h1,Bool.false_and,if_neg (by simp),if_pos (by rw[mC hx];decide +kernel)]at h;cases h
 ·cases h2:aI B ⟨#[36,61]⟩
  ·rw[h1,h2]at h
   by_cases hz:B.length=0
   ·rw[if_pos (by rfl),if_pos hz]at h;cases h
   ·exact⟨rfl,rfl,hz⟩
  ·rw[h1,h2,if_neg (by decide),if_pos (by rw[mC hx];decide +kernel)]at h;cases h
end
section
variable {T:List Tk} {S:List Sm} {f:Nat}
theorem wZ(T:List Tk)(h:Nat):eF T h h=[]:=by unfold eF;rw[Nat.sub_self];simp
theorem sH{j:Nat}(P:ut T S j):0<(eF T (au S j).h ((au S j).z-1)).length/\(((au S j).k.toList == [36,102])=true->1<(eF T (au S j).h ((au S j).z-1)).length):=by
 have hc:=P.cl;unfold f9 at hc
 split at hc
 ·cases hc
 ·next h1 =>
  split at hc
  ·cases hc
  ·next h2 =>
   refine⟨by omega,fun hk=>?_⟩;have:¬(eF T (au S j).h ((au S j).z-1)).length<2:=fun hl=>h2 (by rw[hk];simp[hl])
   omega
theorem xC{h i:Nat}{x:ByteArray}(h1:h<=i)(h2:i<=T.length)(hx:aI (eF T h i) x=true):∃q,h<=q/\q<i/\tS T q=x:=by
 unfold aI at hx;obtain⟨y,hy,e⟩:=List.any_eq_true.1 hx;obtain⟨q,hq,e2⟩:=List.getElem_of_mem hy;rw[nz T h i h1 h2]at hq;refine⟨h+q,by omega,by omega,?_⟩;have e3:=qq T h i q (by omega) h2;rw[List.getD_eq_getElem?_getD,List.getElem?_eq_getElem (by rw[nz T h i h1 h2];exact hq)]at e3;have e4:(eF T h i)[q]=tS T (h+q):=e3;rw[<-e4,e2];have:y.toList=x.toList:=by simpa using e
 apply ByteArray.ext
 apply Array.toList_inj.1
 rw[<-ByteArray.toList_eq,<-ByteArray.toList_eq,this]
theorem qG{j:Nat}(P:ut T S j)(hk:((au S j).k.toList == [36,112])=false):bV T (au S j).h=eF T (au S j).h ((au S j).z-1):=by
 rw[uK P];refine sN _ ?_
 cases e:aI (eF T (au S j).h ((au S j).z-1)) ⟨#[36,61]⟩
 ·rfl
 ·have hz:=P.zt
  have hz0:=P.pos;obtain⟨q,h1,h2,e2⟩:=xC P.le (by omega) e;have hr:=(P.w q h1 h2).1;have:=(sD hr (by rw[e2];decide +kernel)).1;rw[hk]at this;cases this
theorem qO{j:Nat}(P:ut T S j):((tS T (au S j).h).toList == [36,61])=false/\(au S j).h<(au S j).z-1:=by
 have hl:=(sH P).1;have hz:=P.zt;have hz0:=P.pos;rw[nz T _ _ P.le (by omega)]at hl;have hlt:(au S j).h<(au S j).z-1:=by omega
 refine⟨?_,hlt⟩
 cases e:((tS T (au S j).h).toList == [36,61])
 ·rfl
 ·have hr:=(P.w _ (Nat.le_refl _) hlt).1
  have:=(sD hr e).2.2;rw[wZ]at this;exact absurd rfl this
theorem wh{j:Nat}(P:ut T S j):0<(bV T (au S j).h).length/\(bV T (au S j).h).getD 0 ⟨#[]⟩=tS T (au S j).h:=by
 obtain⟨h1,h2⟩:=qO P;have hz:=P.zt;have hg:=qq T (au S j).h ((au S j).z-1) 0 (by omega) (by omega);have hl:=(sH P).1;rw[uK P];rw[Nat.add_zero]at hg;generalize eF T (au S j).h ((au S j).z-1)=B at *
 cases B with
 | nil=>simp at hl
 | cons x B =>
  have e:x=tS T (au S j).h:=hg;have hq:jF x=true:=by unfold jF;rw[e,h1];rfl
  rw[List.takeWhile_cons_of_pos hq];exact⟨by simp,e⟩
theorem Lh(p:Ab T T.length S f)(hall:∀q,q<T.length->a9 T S q=0)(n:Nat)(hn:n<=S.length):FV T S n:=fun j hj hk=>by
 have hends:bY (au S j).k=false:=by
  unfold aE aH at hk;simp only[Bool.or_eq_true]at hk
  rcases hk with (h | h) | (h | h) <;> exact gd h (by decide)
 have P:=nG p hall j (by omega) hends;refine⟨(wh P).1,fun hf=>?_⟩;have hnp:((au S j).k.toList == [36,112])=false:=by rw[gU hf];decide
 show 1<(bV T (au S j).h).length
 rw[qG P hnp];exact(sH P).2 hf
theorem uj{key x:ByteArray}{n:Nat}{B:List ByteArray}(h:kl T S key x n B=0)(he:bY x=false)(hq:(x.toList == [36,61])=false)(hB:aI B ⟨#[36,61]⟩=false):(if((key.toList == [36,99])||(key.toList == [36,118]))=true then iZ T S x n (key.toList == [36,99]) B else id T S key x n B)=0:=by
 unfold kl at h
 have hd:(x.toList == [36,46])=false:=by
  unfold bY at he;simp only[Bool.or_eq_false_iff]at he;exact he.1.1
 rw[hd,hq,hB,if_neg (by simp),Bool.false_and,if_neg (by simp)]at h
 split at h
 ·cases h
 ·exact h
theorem Il{j:Nat}(P:ut T S j)(hk:(aE (au S j).k||aH (au S j).k)=true):dL T S (tS T (au S j).h) j=true:=by
 obtain⟨h1,h2⟩:=qO P;obtain⟨hr,he⟩:=P.w _ (Nat.le_refl _) h2;rw[wZ]at hr;have hs:=uj hr he h1 rfl
 have hkk:(((au S j).k.toList == [36,99])||((au S j).k.toList == [36,118]))=false/\((au S j).k.toList == [36,100])=false:=by
  unfold aE aH at hk;simp only[Bool.or_eq_true]at hk
  rcases hk with (h | h) | (h | h) <;> (rw[gU h,gU h,gU h];decide)
 rw[hkk.1,if_neg (by simp)]at hs;unfold id at hs;rw[hkk.2,if_neg (by simp),if_pos (by rfl)]at hs
 cases hc:dL T S (tS T (au S j).h) j
 ·rw[hc,if_pos rfl]at hs;cases hs
 ·rfl
theorem Lp{j:Nat}(P:ut T S j)(hk:((au S j).k.toList == [36,102])=true):jE T S (tS T ((au S j).h+1)) j=true/\(bV T (au S j).h).getD 1 ⟨#[]⟩=tS T ((au S j).h+1):=by
 have hl:=(sH P).2 hk;have hz:=P.zt;have hz0:=P.pos;rw[nz T _ _ P.le (by omega)]at hl;have hnp:((au S j).k.toList == [36,112])=false:=by rw[gU hk];decide
 have hg:=qq T (au S j).h ((au S j).z-1) 1 (by omega) (by omega);refine⟨?_,by rw[qG P hnp];exact hg⟩;obtain⟨hr,he⟩:=P.w ((au S j).h+1) (by omega) (by omega)
 have hq:((tS T ((au S j).h+1)).toList == [36,61])=false:=by
  cases e:((tS T ((au S j).h+1)).toList == [36,61])
  ·rfl
  ·have:=(sD hr e).1
   rw[hnp]at this;cases this
 have hb:eF T (au S j).h ((au S j).h+1)=[tS T (au S j).h]:=by
  have:=yM T (au S j).h (au S j).h (Nat.le_refl _) (by omega);rw[wZ]at this;exact this
 have hB:aI (eF T (au S j).h ((au S j).h+1)) ⟨#[36,61]⟩=false:=by
  rw[hb,qV];have e:(⟨#[36,61]⟩:ByteArray).toList=[36,61]:=by decide +kernel
  rw[e];exact(qO P).1
 have hs:=uj hr he hq hB;rw[gU hk,gU hk,if_neg (by decide)]at hs;unfold id at hs;rw[hb,gU hk,if_neg (by decide),if_neg (by simp),hk,if_pos rfl,if_neg (by simp)]at hs
 cases hv:jE T S (tS T ((au S j).h+1)) j
 ·rw[hv,if_pos rfl]at hs;cases hs
 ·rfl
theorem yT(p:Ab T T.length S f)(hall:∀q,q<T.length->a9 T S q=0){x:ByteArray}{i k:Nat}(hi:i<=S.length)(hk:k<=S.length)(h1:dL T S x i=true)(h2:jE T S x k=true):False:=by
 unfold dL io at h1;unfold jE io at h2;obtain⟨j,hj,e1⟩:=List.any_eq_true.1 h1;obtain⟨m,hm,e2⟩:=List.any_eq_true.1 h2;have hj:=List.mem_range.1 hj;have hm:=List.mem_range.1 hm;unfold nV at e1 e2;rw[mg.1,Bool.and_eq_true,Bool.and_eq_true]at e1;rw[mg.2,Bool.and_eq_true,Bool.and_eq_true]at e2;obtain⟨c1,c2,-⟩:=e1;obtain⟨v1,v2,-⟩:=e2
 have word:∀(j:Nat),j<S.length->(((au S j).k.toList == [36,99])=true∨((au S j).k.toList == [36,118])=true)->aI (bV T (au S j).h) x=true->∃B,iZ T S x j ((au S j).k.toList == [36,99]) B=0:=fun j hj hkey hb=>by
  have hends:bY (au S j).k=false:=by rcases hkey with h | h <;> exact gd h (by decide)
  have P:=nG p hall j hj hends;have hnp:((au S j).k.toList == [36,112])=false:=by rcases hkey with h | h <;> (rw[gU h];decide)
  rw[qG P hnp]at hb;have hz:=P.zt;have hz0:=P.pos;obtain⟨q,q1,q2,e⟩:=xC P.le (by omega) hb;obtain⟨hr,he⟩:=P.w q q1 q2
  have noeq:∀q,(au S j).h<=q->q<(au S j).z-1->((tS T q).toList == [36,61])=false:=fun q h1 h2=>by
   cases e:((tS T q).toList == [36,61])
   ·rfl
   ·have:=(sD (P.w q h1 h2).1 e).1
    rw[hnp]at this;cases this
  have hB:aI (eF T (au S j).h q) ⟨#[36,61]⟩=false:=by
   cases e3:aI (eF T (au S j).h q) ⟨#[36,61]⟩
   ·rfl
   ·obtain⟨q',a1,a2,a3⟩:=xC q1 (by omega) e3
    have:=noeq q' a1 (by omega);rw[a3]at this;exact absurd this (by decide +kernel)
  have hs:=uj hr he (noeq q q1 q2) hB;rw[if_pos (by rcases hkey with h | h <;> rw[h] <;> simp),e]at hs;exact⟨_,hs⟩
 obtain⟨B1,n1⟩:=word j (by omega) (Or.inl c1) c2;obtain⟨B2,n2⟩:=word m (by omega) (Or.inr v1) v2;have vno:((au S m).k.toList == [36,99])=false:=by rw[gU v1];decide
 rw[c1]at n1;rw[vno]at n2;unfold iZ at n1 n2
 rcases Nat.lt_trichotomy j m with hlt | heq | hgt
 ·have hc:dL T S x m=true:=by
   unfold dL io;exact lE j hlt (by unfold nV;rw[mg.1,c1,c2];simp)
  rw[hc]at n2
  split at n2
  ·cases n2
  ·simp at n2
 ·rw[heq,vno]at c1;cases c1
 ·have hd:io T S ⟨#[36,118]⟩ x j false=true:=by
   unfold io;exact lE m hgt (by unfold nV;rw[mg.2,v1,v2];simp)
  have ht:iC T S x j=true:=by unfold iC;rw[hd];simp
  rw[ht]at n1
  split at n1
  ·cases n1
  ·simp at n1
theorem LH(p:Ab T T.length S f)(hall:∀q,q<T.length->a9 T S q=0)(n:Nat)(hn:n<=S.length):Kz T S n:=fun r hr hk=>by
 have P:=nG p hall r (by omega) (by unfold aE at hk;rcases Bool.or_eq_true _ _ ▸ hk with h | h <;> exact gd h (by decide));have hc:=Il P (by rw[hk];rfl);have e0:(cn T S r).getD 0 ⟨#[]⟩=tS T (au S r).h:=(wh P).2;rw[e0]
 cases e:aI (fG T S (cC T S r) (cC T S r).length) (tS T (au S r).h)
 ·rfl
 ·exfalso
  unfold aI at e;obtain⟨y,hy,e2⟩:=List.any_eq_true.1 e;unfold fG at hy;obtain⟨i,hi,rfl⟩:=List.mem_map.1 hy;unfold vo at hi;obtain⟨i1,i2⟩:=List.mem_filter.1 hi;have i1:=List.mem_range.1 i1;have eg:(cC T S r).getD i 0=(cC T S r)[i]:=by rw[List.getD_eq_getElem?_getD,List.getElem?_eq_getElem i1];rfl
  unfold CI at i2;rw[eg]at i2 e2;have hj:=pK T S r (cC T S r)[i] (List.getElem_mem i1);generalize (cC T S r)[i]=j at *;have Pj:=nG p hall j (by omega) (gd i2 (by decide));obtain⟨w1,w2⟩:=Lp Pj i2;have e3:cn T S j=bV T (au S j).h:=rfl;rw[e3,w2]at e2
  have e4:tS T ((au S j).h+1)=tS T (au S r).h:=by
   have:(tS T ((au S j).h+1)).toList=(tS T (au S r).h).toList:=by simpa using e2
   apply ByteArray.ext
   apply Array.toList_inj.1
   rw[<-ByteArray.toList_eq,<-ByteArray.toList_eq,this]
  rw[e4]at w1;exact yT p hall (by omega) (by omega) hc w1
end
theorem IR(T:List Tk)(hT:T.length<=10000)(hall:∀q,q<T.length->a9 T (as T) q=0)(n:Nat)(hn:n<=(as T).length):mN T (as T) n:=by
 have p:=fI T;have hl:(as T).length<=T.length:=sM T T.length;obtain⟨ok,fo⟩:=Bi T (by omega) hall;have h:mN T (as T) (as T).length:=⟨ok,by omega,hT,fun j hj hk=>qT (nG p hall j hj hk),fo⟩;exact h.mono hn
def CO(S:List Sm)(a r:Nat):Prop:=r<a/\(aE (au S r).k||aH (au S r).k)=true
structure Kq(T:List Tk)(S:List Sm)(a i:Nat)(s:cO):Prop where
 nd:s.need<=10000
 ways:s.ref=-1∨(s.ref=-2/\s.back<i)∨∃r,CO S a r/\s.ref=(r:Nat)/\s.need=gy T S (r:Nat)
def lC(T:List Tk)(S:List Sm)(a:Nat)(P:List cO):Prop:=∀i,i<P.length->Kq T S a i (bG P i)
section
variable {T:List Tk} {S:List Sm} {a:Nat}
theorem lC.snoc{P:List cO}{s:cO}(h:lC T S a P)(hs:Kq T S a P.length s):lC T S a (P++[s]):=fun i hi=>by
 rw[List.length_append,List.length_cons,List.length_nil]at hi
 by_cases e:i<P.length
 ·have e2:bG (P++[s]) i=bG P i:=by unfold bG;rw[List.getD_eq_getElem?_getD,List.getD_eq_getElem?_getD,List.getElem?_append_left e]
  rw[e2];exact h i e
 ·have e1:i=P.length:=by omega
  have e2:bG (P++[s]) i=s:=by unfold bG;rw[e1,List.getD_eq_getElem?_getD,List.getElem?_append_right (Nat.le_refl _),Nat.sub_self];rfl
  rw[e2,e1];exact hs
theorem lC.nil:lC T S a []:=fun i hi=>by simp at hi
theorem zn(ha:a<=10000){r:Nat}(hr:r<a):gy T S (r:Nat)<=10000:=by
 unfold gy
 split
 ·omega
 ·split
  ·have:=kY T S (r:Int).toNat
   rw[Int.toNat_natCast]at this ⊢;omega
  ·omega
theorem vI{x:ByteArray}{k:Nat}(h:dW T S a x=(k:Int)):CO S a k:=by
 have hw:=nN T S a x;rw[h]at hw
 rcases hw with e | ⟨q,hq,e⟩
 ·omega
 ·have e1:k=q:=by omega
  subst e1;refine⟨hq,?_⟩;unfold dW at h
  split at h
  ·omega
  ·split at h
   ·unfold bn at h
    cases hf:(List.range a).find? (oB T S x) with
    | none=>rw[hf]at h;simp at h
    | some j =>
     rw[hf]at h;have ej:j=k:=by have h:(j:Int)=(k:Int):=h;omega
     have hp:=List.find?_some hf;rw[ej]at hp;unfold oB at hp;rw[Bool.and_eq_true]at hp
     cases ha:(aE (au S k).k||aH (au S k).k)
     ·exfalso
      have:cg T (au S k)=⟨#[]⟩:=by unfold cg;rw[ha,if_neg (by simp)]
      rw[this]at hp;exact absurd hp.1 (by decide +kernel)
     ·rfl
   ·omega
theorem GZ(ha:a<=10000)(zt:Nat)(n:Nat):∀i P,lC T S a P->lC T S a (lG T S a zt n i P).st/\((lG T S a zt n i P).why=0->0<(lG T S a zt n i P).st.length)/\(lG T S a zt n i P).st.length<=P.length+n:=by
 induction n with
 | zero =>
  intro i P hP;rw[lG]
  split
  ·exact⟨lC.nil,fun h=>(by cases h),Nat.zero_le _⟩
  ·exact⟨hP,fun _=>(by simp only;omega),(by simp)⟩
 | succ n ih =>
  intro i P hP;rw[lG]
  split
  ·obtain⟨h1,h2,h3⟩:=ih (i+1) _ (hP.snoc (s:=⟨-1,0,0,(T.getD i ic).file,(T.getD i ic).line,(T.getD i ic).col⟩) ⟨by show 0<=10000;omega,Or.inl rfl⟩)
   exact⟨h1,h2,by simp at h3 ⊢;omega⟩
  ·split
   ·exact⟨lC.nil,fun h=>(by cases h),Nat.zero_le _⟩
   ·next h1 h2 =>
    obtain⟨k,hk⟩:∃k:Nat,dW T S a (tS T i)=k:=⟨(dW T S a (tS T i)).toNat,by omega⟩
    have hr:=vI hk;rw[hk];obtain⟨h1,h2,h3⟩:=ih (i+1) _ (hP.snoc (s:=⟨(k:Int),0,gy T S (k:Int),(T.getD i ic).file,(T.getD i ic).line,(T.getD i ic).col⟩) ⟨zn ha hr.1,Or.inr (Or.inr ⟨k,hr,rfl,rfl⟩)⟩);exact⟨h1,h2,by simp at h3 ⊢;omega⟩
theorem Gt(ha:a<=10000)(refs:List Nat)(hrefs:∀r∈refs,CO S a r)(en:Lt)(L:List Lt):∀P tags num fr,lC T S a P->(∀t∈tags,t<P.length)->(fr=true->0<P.length) ->
  lC T S a (lJ T S refs en L P tags num fr).st/\((lJ T S refs en L P tags num fr).why=0->0<(lJ T S refs en L P tags num fr).st.length)/\(lJ T S refs en L P tags num fr).st.length<=P.length+L.length:=by
 induction L with
 | nil =>
  intro P tags num fr hP _ _;rw[lJ]
  split
  ·exact⟨lC.nil,fun h=>(by cases h),Nat.zero_le _⟩
  ·split
   ·exact⟨lC.nil,fun h=>(by cases h),Nat.zero_le _⟩
   ·exact⟨hP,fun _=>(by simp only;omega),(by simp)⟩
 | cons l L ih =>
  intro P tags num fr hP hT hF;rw[lJ]
  split
  ·obtain⟨h1,h2,h3⟩:=ih P tags (num++z9 l.c) false hP hT (fun h=>by cases h)
   exact⟨h1,h2,by simp at h3 ⊢;omega⟩
  ·split
   ·split
    ·exact⟨lC.nil,fun h=>(by cases h),Nat.zero_le _⟩
    ·next hz =>
     have hle:=vP (num++z9 l.c) (refs.length+tags.length);generalize gC (num++z9 l.c) (refs.length+tags.length)=m at *
     have hs:Kq T S a P.length (pa T S refs tags m l):=by
      unfold pa
      split
      ·next hm =>
       have hq:m-1<refs.length:=by omega
       have e:refs.getD (m-1) 0=refs[m-1]:=by rw[List.getD_eq_getElem?_getD,List.getElem?_eq_getElem hq];rfl
       have hr:=hrefs refs[m-1] (List.getElem_mem hq);rw[e];exact⟨zn ha hr.1,Or.inr (Or.inr ⟨_,hr,rfl,rfl⟩)⟩
      ·next hm =>
       have hq:m-refs.length-1<tags.length:=by omega
       have e:tags.getD (m-refs.length-1) 0=tags[m-refs.length-1]:=by rw[List.getD_eq_getElem?_getD,List.getElem?_eq_getElem hq];rfl
       rw[e];exact⟨by show 0<=10000;omega,Or.inr (Or.inl ⟨rfl,hT _ (List.getElem_mem hq)⟩)⟩
     obtain⟨h1,h2,h3⟩:=ih _ tags ⟨#[]⟩ true (hP.snoc hs) (fun t ht=>by rw[List.length_append];have:=hT t ht;omega) (fun _=>by simp);exact⟨h1,h2,by simp at h3 ⊢;omega⟩
   ·split
    ·next hz =>
     have hp:=hF hz.2
     obtain⟨h1,h2,h3⟩:=ih P (tags++[P.length-1]) num false hP (fun t ht=>by
      rcases List.mem_append.1 ht with h | h
      ·exact hT t h
      ·rw[List.mem_singleton.1 h];omega) (fun h=>by cases h)
     exact⟨h1,h2,by simp at h3 ⊢;omega⟩
    ·split
     ·obtain⟨h1,h2,h3⟩:=ih _ tags num false (hP.snoc (s:=⟨-1,0,0,l.file,l.line,l.col⟩) ⟨by show 0<=10000;omega,Or.inl rfl⟩) (fun t ht=>by rw[List.length_append];have:=hT t ht;omega) (fun h=>by cases h)
      exact⟨h1,h2,by simp at h3 ⊢;omega⟩
     ·exact⟨lC.nil,fun h=>(by cases h),Nat.zero_le _⟩
theorem Jw(ha:a<=10000)(hO:eu T)(zt:Nat)(n:Nat):∀i refs,(∀r∈refs,CO S a r)->lC T S a (ss T S a zt n i refs).st/\((ss T S a zt n i refs).why=0->0<(ss T S a zt n i refs).st.length)/\(ss T S a zt n i refs).st.length<=1024*T.length:=by
 induction n with
 | zero=>intro i refs _;rw[ss];exact⟨lC.nil,fun h=>(by cases h),Nat.zero_le _⟩
 | succ n ih =>
  intro i refs hr;rw[ss]
  split
  ·obtain⟨h1,h2,h3⟩:=Gt (T:=T) ha refs hr (Bm (T.getD zt ic)) (dU T (i+1) zt) [] [] ⟨#[]⟩ false lC.nil (fun t ht=>by cases ht) (fun h=>by cases h)
   have:=tB T hO (i+1) zt;rw[List.length_nil,Nat.zero_add]at h3;exact⟨h1,h2,by unfold iW;omega⟩
  ·split
   ·exact⟨lC.nil,fun h=>(by cases h),Nat.zero_le _⟩
   ·split
    ·exact⟨lC.nil,fun h=>(by cases h),Nat.zero_le _⟩
    ·next h1 h2 h3 =>
     obtain⟨k,hk⟩:∃k:Nat,dW T S a (tS T i)=k:=⟨(dW T S a (tS T i)).toNat,by omega⟩
     refine ih (i+1) _ (fun r hr2=>?_)
     rcases List.mem_append.1 hr2 with h | h
     ·exact hr r h
     ·rw[List.mem_singleton.1 h,hk,Int.toNat_natCast];exact vI hk
theorem uy(ha:a<=10000)(hO:eu T)(hT:T.length<=10000)(e zt:Nat)(hz:zt<=T.length):lC T S a (eZ T S a e zt).st/\((eZ T S a e zt).why=0->0<(eZ T S a e zt).st.length)/\(eZ T S a e zt).st.length<=100000000:=by
 unfold eZ
 split
 ·unfold iQ
  obtain⟨h1,h2,h3⟩:=Jw (T:=T) (S:=S) ha hO zt (zt-(e+2)) (e+2) (cC T S a) (fun r hr=>by
   obtain⟨k1,-,k3⟩:=wl T S a r hr;exact⟨k1,by rw[k3];simp⟩)
  exact⟨h1,h2,by omega⟩
 ·obtain⟨h1,h2,h3⟩:=GZ (T:=T) (S:=S) ha zt (zt-(e+1)) (e+1) [] lC.nil
  exact⟨h1,h2,by simp at h3;omega⟩
theorem Fk(ha:a<=10000)(hO:eu T)(hT:T.length<=10000)(e zt:Nat)(hz:zt<=T.length):Gn T S a (eZ T S a e zt):=by
 obtain⟨k1,k2,k3⟩:=uy (T:=T) (S:=S) ha hO hT e zt hz;refine⟨k3,fun i=>?_,fun h=>⟨k2 h,fun i hi hne=>⟨?_⟩⟩⟩
 ·by_cases hi:i<(eZ T S a e zt).st.length
  ·have:=(k1 i hi).nd;omega
  ·have:bG (eZ T S a e zt).st i=Lz:=by unfold bG;rw[List.getD_eq_getElem?_getD,List.getElem?_eq_none (by omega)];rfl
   rw[this];show 0<=100000;omega
 ·rcases(k1 i hi).ways with h | ⟨h,hb⟩ | ⟨r,hr,h1,h2⟩
  ·exact absurd h hne
  ·exact Or.inl ⟨h,hb⟩
  ·refine Or.inr ⟨r,hr.1,h1,hr.2,fun hk=>?_⟩
   rw[h2];unfold gy;rw[if_neg (by omega),Int.toNat_natCast,if_pos hk]
end
def vj(t:Tk):Prop:=t.s.size<=1024/\0<=t.col/\t.col<=10000
theorem xv:eu []:=fun t ht=>by cases ht
theorem kQ{L M:List Tk}(h:eu L)(k:eu M):eu (L++M):=fun t ht=>by
 rcases List.mem_append.1 ht with e | e
 ·exact h t e
 ·exact k t e
theorem j9{t:Tk}(h:vj t):eu [t]:=fun u hu=>by rw[List.mem_singleton.1 hu];exact h
theorem pJ{t:Tk}(r:Int)(h:vj t):vj (oL t r):=⟨by show(0:Nat)<=1024;omega,h.2⟩
theorem wG(nm d s:ByteArray)(r:Int)(k:Nat)(hs:s.size<=1024)(hk:k<=1024):vj (kL nm d s r k):=by
 have:=xf d k;exact⟨hs,by show 0<=aW d k;omega,by show aW d k<=10000;omega⟩
theorem yK(nm d:ByteArray)(a z:Nat)(L:List Tk)(hL:eu L)(haz:a<=z)(hz:z<=1024):eu (g7 nm d a z L):=by
 unfold g7
 split
 ·exact hL
 ·exact kQ hL (j9 (wG nm d _ 0 a (by rw[ByteArray.size_extract];omega) (by omega)))
theorem zk(nm d:ByteArray)(i:Nat)(hi:i<=1024):eu (hQ nm d i):=by
 induction i with
 | zero=>exact xv
 | succ i ih =>
  rw[hQ]
  split
  ·exact yK nm d _ i _ (ih (by omega)) (me d i) (by omega)
  ·exact ih (by omega)
theorem Dg(nm d:ByteArray)(hd:d.size<=1024):eu (fS nm d):=by
 unfold fS
 split
 ·next i h =>
  have hi:i<d.size:=List.mem_range.1 (List.mem_of_find?_eq_some h);exact kQ (zk nm d i (by omega)) (j9 (wG nm d _ 1 i (by show(0:Nat)<=1024;omega) (by omega)))
 ·exact kQ (yK nm d _ _ _ (zk nm d _ hd) (me d _) hd) (j9 (wG nm d _ 0 _ (by show(0:Nat)<=1024;omega) hd))
theorem tX{t:Tk}{L:List Tk}(h:vj t)(k:eu L):eu (t :: L):=fun u hu=>by
 rcases List.mem_cons.1 hu with e | e
 ·rw[e];exact h
 ·exact k u e
theorem FO(b:Bool)(L:List Tk)(h:eu L):eu (bJ b L):=by
 induction L generalizing b with
 | nil=>cases b <;> exact xv
 | cons t L ih =>
  have ht:vj t:=h t (List.mem_cons_self ..);have hL:eu L:=fun u hu=>h u (List.mem_cons_of_mem _ hu)
  have hz:∀r,vj ⟨⟨#[]⟩,r,t.file,t.line,t.col⟩:=fun r=>⟨by show(0:Nat)<=1024;omega,ht.2⟩
  cases b
  ·rw[bJ]
   split
   ·exact ih true hL
   ·exact tX ht (ih false hL)
  ·rw[bJ]
   split
   ·exact tX ht (ih true hL)
   ·split
    ·exact ih false hL
    ·split
     ·exact tX (hz 3) (ih true hL)
     ·split
      ·exact j9 (hz 2)
      ·exact ih true hL
theorem Du(rec:Nat->List Bool->List Tk->List Tk×List Bool)(hrec:∀k sn out,eu out->eu (rec k sn out).1)(fs:Fs)(n:Nat):∀L,L.length<=n->eu L->∀sn out,eu out->eu (b9 rec fs L sn out).1:=by
 induction n with
 | zero =>
  intro L hl _ sn out ho
  cases L with
  | nil=>rw[b9];exact ho
  | cons _ _=>simp at hl
 | succ n ih =>
  intro L hl hL sn out ho
  cases L with
  | nil=>rw[b9];exact ho
  | cons t r =>
   have ht:vj t:=hL t (List.mem_cons_self ..);have hr:eu r:=fun u hu=>hL u (List.mem_cons_of_mem _ hu)
   have hl1:r.length<=n:=by simpa using hl
   rw[b9.eq_def];simp only
   split
   ·split
    ·exact ho
    ·exact kQ ho (j9 (pJ 7 ht))
   ·split
    ·exact ih r hl1 hr sn _ (kQ ho (j9 ht))
    ·split
     ·exact kQ ho (j9 (pJ 4 ht))
     ·cases r with
      | nil=>exact ho
      | cons a r =>
       have ha:vj a:=hr a (List.mem_cons_self ..)
       cases r with
       | nil=>exact kQ ho (j9 (pJ _ ha))
       | cons b r =>
        have hb:vj b:=hr b (List.mem_cons_of_mem _ (List.mem_cons_self ..));have hr2:eu r:=fun u hu=>hr u (List.mem_cons_of_mem _ (List.mem_cons_of_mem _ hu))
        have hl2:r.length<=n:=by simp at hl1;omega
        simp only
        split
        ·exact kQ ho (j9 (pJ _ ha))
        ·split
         ·exact kQ ho (j9 (pJ _ hb))
         ·split
          ·exact ih r hl2 hr2 sn out ho
          ·split
           ·exact hrec _ sn out ho
           ·exact ih r hl2 hr2 _ _ (hrec _ sn out ho)
theorem DU(fs:Fs)(hfd:∀k,(aj fs k).size<=1024)(n:Nat):∀k sn out,eu out->eu (dx fs n k sn out).1:=by
 induction n with
 | zero=>intro k sn out ho;exact ho
 | succ n ih =>
  intro k sn out ho;rw[dx];exact Du _ ih fs _ _ (Nat.le_refl _) (FO _ _ (Dg _ _ (hfd k))) _ _ ho
theorem FX(fs:Fs)(k:Nat)(hfd:∀k,(aj fs k).size<=1024):eu (da fs k).1:=by
 have h:eu (np fs k):=DU fs hfd _ _ _ _ xv;unfold da
 split
 ·exact fun t ht=>h t (List.dropLast_subset _ ht)
 ·exact h
def xp(T:List Tk)(S:List Sm)(j:Nat):Nat:=(au S j).h+(bV T (au S j).h).length
theorem Lx(p:ByteArray->Bool)(L:List ByteArray)(h:∃x∈L,p x=false):(L.takeWhile p).length<L.length/\p (L.getD (L.takeWhile p).length ⟨#[]⟩)=false/\∀q,q<(L.takeWhile p).length->p (L.getD q ⟨#[]⟩)=true:=by
 induction L with
 | nil=>obtain⟨x,hx,-⟩:=h;cases hx
 | cons a L ih =>
  cases ha:p a
  ·rw[List.takeWhile_cons,if_neg (by rw[ha];simp)]
   exact⟨by simp,ha,fun q hq=>by simp at hq⟩
  ·rw[List.takeWhile_cons,if_pos ha]
   obtain⟨h1,h2,h3⟩:=ih (by
    obtain⟨x,hx,hp⟩:=h
    rcases List.mem_cons.1 hx with e | e
    ·rw[e,ha]at hp;cases hp
    ·exact⟨x,e,hp⟩)
   refine⟨by simp;omega,h2,fun q hq=>?_⟩
   cases q with
   | zero=>exact ha
   | succ q=>exact h3 q (by simpa using hq)
theorem Kf{T:List Tk}{S:List Sm}{j:Nat}(P:ut T S j)(hk:((au S j).k.toList == [36,112])=true) :
  (au S j).h<=xp T S j/\((tS T (xp T S j)).toList == [36,61])=true/\(∀q,(au S j).h<=q->q<xp T S j->((tS T q).toList == [36,61])=false)/\xp T S j<(au S j).z-1:=by
 have hz:=P.zt;have hz0:=P.pos;have hle:=P.le;have hc:=P.cl;have hl:=nz T (au S j).h ((au S j).z-1) hle (by omega)
 have hB:aI (eF T (au S j).h ((au S j).z-1)) ⟨#[36,61]⟩=true:=by
  unfold f9 at hc
  split at hc
  ·cases hc
  ·split at hc
   ·cases hc
   ·cases e:aI (eF T (au S j).h ((au S j).z-1)) ⟨#[36,61]⟩
    ·rw[hk,e,if_pos (by decide)]at hc;cases hc
    ·rfl
 obtain⟨y,hy,ey⟩:=List.any_eq_true.1 hB
 have hex:∃x∈eF T (au S j).h ((au S j).z-1),jF x=false:=by
  refine⟨y,hy,?_⟩;unfold jF;have e:y.toList=(⟨#[36,61]⟩:ByteArray).toList:=by simpa using ey
  rw[e];decide +kernel
 obtain⟨h1,h2,h3⟩:=Lx jF _ hex;rw[<-uK P]at h1 h2 h3;rw[hl]at h1;unfold xp;refine⟨by omega,?_,fun q q1 q2=>?_,by omega⟩
 ·rw[qq T _ _ _ (by omega) (by omega)]at h2
  unfold jF at h2;simpa using h2
 ·have:=h3 (q-(au S j).h) (by omega)
  rw[qq T _ _ _ (by omega) (by omega),show(au S j).h+(q-(au S j).h)=q by omega]at this;unfold jF at this;simpa using this
def LI(T:List Tk)(S:List Sm)(a:Nat):jG:=eZ T S a (xp T S a) ((au S a).z-1)
def LN(T:List Tk)(S:List Sm)(a:Nat):j7:=qh T S a (LI T S a) (T.getD ((au S a).z-1) ic)
theorem yi.keptS{w w':World}{ao:Option Addr}{cap:Nat}{L:List Sm}{S:List Nat}(h:yi w ao cap L)(k:ab S w w')(hS:∀g,ao=some ⟨g,0,none⟩->g∉S):yi w' ao cap L:=by
 refine⟨h.1,fun j t ht=>?_⟩;obtain⟨g,e,hg,c0,c1,c2,c3⟩:=h.2 j t ht;have q:∀o,w'.cell? ⟨g,o,none⟩=w.cell? ⟨g,o,none⟩:=fun o=>World.cell?_of_block (k.block g hg (hS g e))
 exact⟨g,e,Nat.lt_of_lt_of_le hg k.size,by rw[q];exact c0,by rw[q];exact c1,by rw[q];exact c2,by rw[q];exact c3⟩
theorem fc.off{w wx:World}{b v:Nat}{T:List Tk}{aoT:Option Addr}{cT:Nat}{S:List Sm}{aoS:Option Addr}{cS:Nat}{ao:Option Addr}{n c:Nat}{x1 x2 x3 x4:Value}(h:fc w b T aoT cT S aoS cS)(hv:w.heap[v]?=some (.cells #[.slice ao n c,x1,x2,x3,x4] 85 (0,0)))(k:ab [v] w wx):fc wx b T aoT cT S aoS cS:=by
 have v0:w.cell? ⟨v,0,none⟩=some (.slice ao n c):=by rw[aa hv];rfl
 refine⟨k.get h.d (fun hb=>?_),?_,?_⟩
 ·simp at hb
  subst hb;have:=h.d.symm.trans hv;simp at this
 ·cases hT:T with
  | nil=>rw[hT]at h;exact⟨h.t.1,fun j t ht=>by simp at ht⟩
  | cons t L =>
   rw[hT]at h;refine h.t.keptS k (fun g e hq=>?_);simp at hq;subst hq;obtain⟨g,e',-,c0,-⟩:=h.t.2 0 t rfl;rw[e']at e;cases e;rw[Nat.zero_mul]at c0;rw[v0]at c0;cases c0
 ·cases hS:S with
  | nil=>rw[hS]at h;exact⟨h.s.1,fun j t ht=>by simp at ht⟩
  | cons t L =>
   rw[hS]at h;refine h.s.keptS k (fun g e hq=>?_);simp at hq;subst hq;obtain⟨g,e',-,c0,-⟩:=h.s.2 0 t rfl;rw[e']at e;cases e;rw[Nat.zero_mul]at c0;rw[v0]at c0;cases c0
theorem Bn(v b:Nat)(T:List Tk)(aoT:Option Addr)(cT:Nat)(aoS:Option Addr)(cS:Nat)(ao:Option Addr)(n c:Nat)(x1 y3 y4:Value)(w:World)
  (hv:w.heap[v]?=some (.cells #[.slice ao n c,x1,.pointer (some ⟨b,0,none⟩),y3,y4] 85 (0,0)))
  (hD:fc w b T aoT cT (as T) aoS cS) (hT:T.length<=10000) (hO:eu T) (hall:∀q,q<T.length->a9 T (as T) q=0) :
  Calls Tryz.prog 57 #[.pointer (some ⟨v,0,none⟩)] w fun e w'=>G7 T (as T) v b (.slice ao n c) x1 (LI T (as T)) (LN T (as T)) w e w':=by
 have p:=fI T;have hl:(as T).length<=T.length:=sM T T.length;have hD':∀wx,ab [v] w wx->fc wx b T aoT cT (as T) aoS cS:=fun wx k=>hD.off hv k
 have ends:∀a,ve (as T) a=true->bY (au (as T) a).k=false:=fun a h=>gd h (by decide)
 refine Bc v b T aoT cT (as T) aoS cS _ x1 y3 y4 _ _ w hv hD' (by omega) (IR T hT hall _ (Nat.le_refl _)).ok.a ?_ ?_ ?_
 ·intro a ha hp wx kx
  have P:=nG p hall a ha (ends a hp);obtain⟨e1,e2,e3,e4⟩:=Kf P hp;have:=P.pos;have:=P.zt;exact BD b a (xp T (as T) a) ((au (as T) a).z-1) T aoT cT _ aoS cS wx (hD' wx kx) (IR T hT hall a (by omega)) ha (qT P) hO e1 e2 e3 (by omega) e4 (by omega) P.dot
 ·intro a ha hp hp' wx kx hs
  have P:=nG p hall a ha (ends a hp);have:=P.pos;have:=P.zt;exact wT b a ((au (as T) a).z-1) T aoT cT _ aoS cS (LI T (as T) a) hp' wx (hD' wx kx) (IR T hT hall a (by omega)) (Lh p hall a (by omega)) (LH p hall a (by omega)) ha (qT P) ((IR T hT hall _ (Nat.le_refl _)).ok.a a ha) (by omega) (by omega) hs (Fk (by omega) hO hT _ _ (by omega))
 ·intro a ha hp
  have P:=nG p hall a ha (ends a hp);have:=P.zt;obtain⟨k1,-,k3⟩:=uy (T:=T) (S:=as T) (a:=a) (by omega) hO hT (xp T (as T) a) ((au (as T) a).z-1) (by omega);refine⟨k3,fun i hi=>?_⟩
  show(bG (eZ T (as T) a (xp T (as T) a) ((au (as T) a).z-1)).st i).ref<=(a:Int)
  rcases(k1 i hi).ways with h | ⟨h,-⟩ | ⟨r,hr,h1,-⟩
  ·rw[h];omega
  ·rw[h];omega
  ·rw[h1];have:=hr.1;omega
end Go.Proofs.YtpddjjabfbfifaaGreat

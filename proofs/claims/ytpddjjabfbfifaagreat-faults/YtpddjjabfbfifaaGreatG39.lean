import Derived.Test.YtpddjjabfbfifaaGreatG35
import Derived.Test.YtpddjjabfbfifaaGreatG36
namespace Go.Proofs.YtpddjjabfbfifaaGreat
open Go.RowKit
set_option maxHeartbeats 40000000
theorem hU{l m:List UInt8}{x:ByteArray}(h:(x.toList==l)=true):(x.toList==m)=(l==m):=by
 have:x.toList=l:=by simpa using h
 rw[this]
section
variable {T:List Tk} {S:List Sm} {f:Nat}
structure tR(T:List Tk)(S:List Sm)(j:Nat):Prop where
 le:(au S j).h<=(au S j).z-1
 zt:(au S j).z<=T.length
 pos:0<(au S j).z
 dot:((tS T ((au S j).z-1)).toList == [36,46])=true
 cl:fT (au S j).k (eF T (au S j).h ((au S j).z-1))=0
 w:∀q,(au S j).h<=q->q<(au S j).z-1->kC T S (au S j).k (tS T q) j (eF T (au S j).h q)=0/\bY (tS T q)=false
theorem nJ(p:Ad T T.length S f)(hall:∀q,q<T.length->a9 T S q=0)(j:Nat)(h:j<S.length)(hk:bY (au S j).k=false):tR T S j:=by
 have hW:=Cu p j h;obtain⟨P,hzT⟩:=p.s j h
 have core:(au S j).h<=(au S j).z-1->(au S j).a<(au S j).h->tR T S j:=fun hle hah=>by
  have hlt:=P.lt;have L0:=hall ((au S j).z-1) (by omega);rw[hW ((au S j).z-1) (by omega) (by omega),if_neg (by omega),if_neg (by omega)]at L0;obtain⟨d1,d2⟩:=uB P.e L0;refine⟨hle,hzT,by omega,d1,d2,fun q h1 h2=>?_⟩;have Q:=hall q (by omega);rw[hW q (by omega) (by omega),if_neg (by omega),if_neg (by omega)]at Q;exact⟨Q,P.n q (by omega) h2⟩
 have ky:=P.k;have lt:=P.lt;unfold dZ at ky
 by_cases hA:(f8 (tS T (au S j).a) ⟨#[36]⟩||decide (T.length<=(au S j).a+1))=true
 ·rw[if_pos hA]at ky
  have e1:(au S j).k=tS T (au S j).a:=congrArg Prod.fst ky;have e2:(au S j).h=(au S j).a+1:=congrArg Prod.snd ky;refine core ?_ (by omega)
  by_cases hz:(au S j).z-1=(au S j).a
  ·have:=P.e
   rw[hz,<-e1,hk]at this
   cases this
  ·omega
 ·rw[if_neg hA]at ky
  have e1:(au S j).k=tS T ((au S j).a+1):=congrArg Prod.fst ky;have e2:(au S j).h=(au S j).a+2:=congrArg Prod.snd ky
  have hno:f8 (tS T (au S j).a) ⟨#[36]⟩=false:=by
   cases e:f8 (tS T (au S j).a) ⟨#[36]⟩
   ·rfl
   ·rw[e]at hA;exact absurd rfl hA
  refine core ?_ (by omega)
  have hz1:(au S j).z-1≠(au S j).a:=fun e=>by
   have:=(km P.e).1;rw[e,hno]at this;cases this
  have hz2:(au S j).z-1≠(au S j).a+1:=fun e=>by
   have:=P.e;rw[e,<-e1,hk]at this;cases this
  omega
theorem pO(T:List Tk)(h i q:Nat)(h1:h+q<i)(h2:i<=T.length):(eF T h i).getD q ⟨#[]⟩=tS T (h+q):=by
 unfold eF tS;rw[List.getD_eq_getElem?_getD,List.getElem?_map,List.getElem?_take,if_pos (by omega),List.getElem?_drop,List.getD_eq_getElem?_getD];rw[List.getElem?_eq_getElem (by omega)];rfl
theorem nM(T:List Tk)(h i:Nat)(h1:h<=i)(h2:i<=T.length):(eF T h i).length=i-h:=by
 unfold eF;rw[List.length_map,List.length_take,List.length_drop];omega
theorem uv{j:Nat}(P:tR T S j):bV T (au S j).h=(eF T (au S j).h ((au S j).z-1)).takeWhile jD:=by
 have hzl:=P.zt;have hz0:=P.pos;have hle:=P.le;unfold bV
 have e:T.drop (au S j).h=(T.drop (au S j).h).take ((au S j).z-1-(au S j).h)++(T.getD ((au S j).z-1) ic) :: T.drop (au S j).z:=by
  conv=>lhs;rw[<-List.take_append_drop ((au S j).z-1-(au S j).h) (T.drop (au S j).h)]
  rw[List.drop_drop,show(au S j).h+((au S j).z-1-(au S j).h)=(au S j).z-1 by omega,CZ T ((au S j).z-1) (by omega),show(au S j).z-1+1=(au S j).z by omega]
 rw[e,show ∀(L:List Tk) (t:Tk) (M:List Tk),L++t :: M=(L++[t])++M from fun L t M=>by simp,wC]
 ·rw[xY _ _ (fun u hu=>?_) P.dot]
  ·rfl
  ·obtain⟨q,hq,e2⟩:=List.getElem_of_mem hu
   rw[List.length_take,List.length_drop]at hq;have:=(P.w ((au S j).h+q) (by omega) (by omega)).2;unfold bY at this;simp only[Bool.or_eq_false_iff]at this
   have e3:u.s=tS T ((au S j).h+q):=by
    rw[<-e2,List.getElem_take,List.getElem_drop];unfold tS;rw[List.getD_eq_getElem?_getD,List.getElem?_eq_getElem (by omega)];rfl
   rw[e3];exact this.1.1
 ·exact⟨T.getD ((au S j).z-1) ic,by simp,pR P.dot⟩
theorem rr{j:Nat}(P:tR T S j):eE T (au S j).h:=⟨(au S j).z-1,P.le,by have:=P.zt;have:=P.pos;omega,pR P.dot⟩
theorem sB{key x:ByteArray}{n:Nat}{B:List ByteArray}(h:kC T S key x n B=0)(hx:(x.toList == [36,61])=true):(key.toList == [36,112])=true/\aI B ⟨#[36,61]⟩=false/\B.length≠0:=by
 unfold kC at h;rw[hU hx (m:=[36,46]),if_neg (by decide),hx,Bool.true_and]at h
 cases h1:(key.toList == [36,112])
 ·rw[h1,Bool.false_and,if_neg (by simp),if_pos (by rw[mW hx];decide +kernel)]at h;cases h
 ·cases h2:aI B ⟨#[36,61]⟩
  ·rw[h1,h2]at h
   by_cases hz:B.length=0
   ·rw[if_pos (by rfl),if_pos hz]at h;cases h
   ·exact⟨rfl,rfl,hz⟩
  ·rw[h1,h2,if_neg (by decide),if_pos (by rw[mW hx];decide +kernel)]at h;cases h
end
section
variable {T:List Tk} {S:List Sm} {f:Nat}
theorem wK(T:List Tk)(h:Nat):eF T h h=[]:=by unfold eF;rw[Nat.sub_self];simp
theorem sI{j:Nat}(P:tR T S j):0<(eF T (au S j).h ((au S j).z-1)).length/\(((au S j).k.toList == [36,102])=true->1<(eF T (au S j).h ((au S j).z-1)).length):=by
 have hc:=P.cl;unfold fT at hc
 split at hc
 ·cases hc
 ·next h1 =>
  split at hc
  ·cases hc
  ·next h2 =>
   refine⟨by omega,fun hk=>?_⟩;have:¬(eF T (au S j).h ((au S j).z-1)).length<2:=fun hl=>h2 (by rw[hk];simp[hl])
   omega
theorem xQ{h i:Nat}{x:ByteArray}(h1:h<=i)(h2:i<=T.length)(hx:aI (eF T h i) x=true):∃q,h<=q/\q<i/\tS T q=x:=by
 unfold aI at hx;obtain⟨y,hy,e⟩:=List.any_eq_true.1 hx;obtain⟨q,hq,e2⟩:=List.getElem_of_mem hy;rw[nM T h i h1 h2]at hq;refine⟨h+q,by omega,by omega,?_⟩;have e3:=pO T h i q (by omega) h2;rw[List.getD_eq_getElem?_getD,List.getElem?_eq_getElem (by rw[nM T h i h1 h2];exact hq)]at e3;have e4:(eF T h i)[q]=tS T (h+q):=e3;rw[<-e4,e2];have:y.toList=x.toList:=by simpa using e
 apply ByteArray.ext
 apply Array.toList_inj.1
 rw[<-ByteArray.toList_eq,<-ByteArray.toList_eq,this]
theorem qN{j:Nat}(P:tR T S j)(hk:((au S j).k.toList == [36,112])=false):bV T (au S j).h=eF T (au S j).h ((au S j).z-1):=by
 rw[uv P];refine sA _ ?_
 cases e:aI (eF T (au S j).h ((au S j).z-1)) ⟨#[36,61]⟩
 ·rfl
 ·have hz:=P.zt
  have hz0:=P.pos;obtain⟨q,h1,h2,e2⟩:=xQ P.le (by omega) e;have hr:=(P.w q h1 h2).1;have:=(sB hr (by rw[e2];decide +kernel)).1;rw[hk]at this;cases this
theorem qC{j:Nat}(P:tR T S j):((tS T (au S j).h).toList == [36,61])=false/\(au S j).h<(au S j).z-1:=by
 have hl:=(sI P).1;have hz:=P.zt;have hz0:=P.pos;rw[nM T _ _ P.le (by omega)]at hl;have hlt:(au S j).h<(au S j).z-1:=by omega
 refine⟨?_,hlt⟩
 cases e:((tS T (au S j).h).toList == [36,61])
 ·rfl
 ·have hr:=(P.w _ (Nat.le_refl _) hlt).1
  have:=(sB hr e).2.2;rw[wK]at this;exact absurd rfl this
theorem v9{j:Nat}(P:tR T S j):0<(bV T (au S j).h).length/\(bV T (au S j).h).getD 0 ⟨#[]⟩=tS T (au S j).h:=by
 obtain⟨h1,h2⟩:=qC P;have hz:=P.zt;have hg:=pO T (au S j).h ((au S j).z-1) 0 (by omega) (by omega);have hl:=(sI P).1;rw[uv P];rw[Nat.add_zero]at hg;generalize eF T (au S j).h ((au S j).z-1)=B at *
 cases B with
 | nil=>simp at hl
 | cons x B =>
  have e:x=tS T (au S j).h:=hg;have hq:jD x=true:=by unfold jD;rw[e,h1];rfl
  rw[List.takeWhile_cons_of_pos hq];exact⟨by simp,e⟩
theorem Lv(p:Ad T T.length S f)(hall:∀q,q<T.length->a9 T S q=0)(n:Nat)(hn:n<=S.length):FR T S n:=fun j hj hk=>by
 have hends:bY (au S j).k=false:=by
  unfold aE aH at hk;simp only[Bool.or_eq_true]at hk
  rcases hk with (h | h) | (h | h) <;> exact gd h (by decide)
 have P:=nJ p hall j (by omega) hends;refine⟨(v9 P).1,fun hf=>?_⟩;have hnp:((au S j).k.toList == [36,112])=false:=by rw[hU hf];decide
 show 1<(bV T (au S j).h).length
 rw[qN P hnp];exact(sI P).2 hf
theorem uT{key x:ByteArray}{n:Nat}{B:List ByteArray}(h:kC T S key x n B=0)(he:bY x=false)(hq:(x.toList == [36,61])=false)(hB:aI B ⟨#[36,61]⟩=false):(if((key.toList == [36,99])||(key.toList == [36,118]))=true then iY T S x n (key.toList == [36,99]) B else ie T S key x n B)=0:=by
 unfold kC at h
 have hd:(x.toList == [36,46])=false:=by
  unfold bY at he;simp only[Bool.or_eq_false_iff]at he;exact he.1.1
 rw[hd,hq,hB,if_neg (by simp),Bool.false_and,if_neg (by simp)]at h
 split at h
 ·cases h
 ·exact h
theorem Fw{j:Nat}(P:tR T S j)(hk:(aE (au S j).k||aH (au S j).k)=true):dM T S (tS T (au S j).h) j=true:=by
 obtain⟨h1,h2⟩:=qC P;obtain⟨hr,he⟩:=P.w _ (Nat.le_refl _) h2;rw[wK]at hr;have hs:=uT hr he h1 rfl
 have hkk:(((au S j).k.toList == [36,99])||((au S j).k.toList == [36,118]))=false/\((au S j).k.toList == [36,100])=false:=by
  unfold aE aH at hk;simp only[Bool.or_eq_true]at hk
  rcases hk with (h | h) | (h | h) <;> (rw[hU h,hU h,hU h];decide)
 rw[hkk.1,if_neg (by simp)]at hs;unfold ie at hs;rw[hkk.2,if_neg (by simp),if_pos (by rfl)]at hs
 cases hc:dM T S (tS T (au S j).h) j
 ·rw[hc,if_pos rfl]at hs;cases hs
 ·rfl
theorem Lm{j:Nat}(P:tR T S j)(hk:((au S j).k.toList == [36,102])=true):jF T S (tS T ((au S j).h+1)) j=true/\(bV T (au S j).h).getD 1 ⟨#[]⟩=tS T ((au S j).h+1):=by
 have hl:=(sI P).2 hk;have hz:=P.zt;have hz0:=P.pos;rw[nM T _ _ P.le (by omega)]at hl;have hnp:((au S j).k.toList == [36,112])=false:=by rw[hU hk];decide
 have hg:=pO T (au S j).h ((au S j).z-1) 1 (by omega) (by omega);refine⟨?_,by rw[qN P hnp];exact hg⟩;obtain⟨hr,he⟩:=P.w ((au S j).h+1) (by omega) (by omega)
 have hq:((tS T ((au S j).h+1)).toList == [36,61])=false:=by
  cases e:((tS T ((au S j).h+1)).toList == [36,61])
  ·rfl
  ·have:=(sB hr e).1
   rw[hnp]at this;cases this
 have hb:eF T (au S j).h ((au S j).h+1)=[tS T (au S j).h]:=by
  have:=yZ T (au S j).h (au S j).h (Nat.le_refl _) (by omega);rw[wK]at this;exact this
 have hB:aI (eF T (au S j).h ((au S j).h+1)) ⟨#[36,61]⟩=false:=by
  rw[hb,rd];have e:(⟨#[36,61]⟩:ByteArray).toList=[36,61]:=by decide +kernel
  rw[e];exact(qC P).1
 have hs:=uT hr he hq hB;rw[hU hk,hU hk,if_neg (by decide)]at hs;unfold ie at hs;rw[hb,hU hk,if_neg (by decide),if_neg (by simp),hk,if_pos rfl,if_neg (by simp)]at hs
 cases hv:jF T S (tS T ((au S j).h+1)) j
 ·rw[hv,if_pos rfl]at hs;cases hs
 ·rfl
theorem yi(p:Ad T T.length S f)(hall:∀q,q<T.length->a9 T S q=0){x:ByteArray}{i k:Nat}(hi:i<=S.length)(hk:k<=S.length)(h1:dM T S x i=true)(h2:jF T S x k=true):False:=by
 unfold dM io at h1;unfold jF io at h2;obtain⟨j,hj,e1⟩:=List.any_eq_true.1 h1;obtain⟨m,hm,e2⟩:=List.any_eq_true.1 h2;have hj:=List.mem_range.1 hj;have hm:=List.mem_range.1 hm;unfold ny at e1 e2;rw[l4.1,Bool.and_eq_true,Bool.and_eq_true]at e1;rw[l4.2,Bool.and_eq_true,Bool.and_eq_true]at e2;obtain⟨c1,c2,-⟩:=e1;obtain⟨v1,v2,-⟩:=e2
 have word:∀(j:Nat),j<S.length->(((au S j).k.toList == [36,99])=true∨((au S j).k.toList == [36,118])=true)->aI (bV T (au S j).h) x=true->∃B,iY T S x j ((au S j).k.toList == [36,99]) B=0:=fun j hj hkey hb=>by
  have hends:bY (au S j).k=false:=by rcases hkey with h | h <;> exact gd h (by decide)
  have P:=nJ p hall j hj hends;have hnp:((au S j).k.toList == [36,112])=false:=by rcases hkey with h | h <;> (rw[hU h];decide)
  rw[qN P hnp]at hb;have hz:=P.zt;have hz0:=P.pos;obtain⟨q,q1,q2,e⟩:=xQ P.le (by omega) hb;obtain⟨hr,he⟩:=P.w q q1 q2
  have noeq:∀q,(au S j).h<=q->q<(au S j).z-1->((tS T q).toList == [36,61])=false:=fun q h1 h2=>by
   cases e:((tS T q).toList == [36,61])
   ·rfl
   ·have:=(sB (P.w q h1 h2).1 e).1
    rw[hnp]at this;cases this
  have hB:aI (eF T (au S j).h q) ⟨#[36,61]⟩=false:=by
   cases e3:aI (eF T (au S j).h q) ⟨#[36,61]⟩
   ·rfl
   ·obtain⟨q',a1,a2,a3⟩:=xQ q1 (by omega) e3
    have:=noeq q' a1 (by omega);rw[a3]at this;exact absurd this (by decide +kernel)
  have hs:=uT hr he (noeq q q1 q2) hB;rw[if_pos (by rcases hkey with h | h <;> rw[h] <;> simp),e]at hs;exact⟨_,hs⟩
 obtain⟨B1,n1⟩:=word j (by omega) (Or.inl c1) c2;obtain⟨B2,n2⟩:=word m (by omega) (Or.inr v1) v2;have vno:((au S m).k.toList == [36,99])=false:=by rw[hU v1];decide
 rw[c1]at n1;rw[vno]at n2;unfold iY at n1 n2
 rcases Nat.lt_trichotomy j m with hlt | heq | hgt
 ·have hc:dM T S x m=true:=by
   unfold dM io;exact lI j hlt (by unfold ny;rw[l4.1,c1,c2];simp)
  rw[hc]at n2
  split at n2
  ·cases n2
  ·simp at n2
 ·rw[heq,vno]at c1;cases c1
 ·have hd:io T S ⟨#[36,118]⟩ x j false=true:=by
   unfold io;exact lI m hgt (by unfold ny;rw[l4.2,v1,v2];simp)
  have ht:iC T S x j=true:=by unfold iC;rw[hd];simp
  rw[ht]at n1
  split at n1
  ·cases n1
  ·simp at n1
theorem LE(p:Ad T T.length S f)(hall:∀q,q<T.length->a9 T S q=0)(n:Nat)(hn:n<=S.length):Kk T S n:=fun r hr hk=>by
 have P:=nJ p hall r (by omega) (by unfold aE at hk;rcases Bool.or_eq_true _ _ ▸ hk with h | h <;> exact gd h (by decide));have hc:=Fw P (by rw[hk];rfl);have e0:(cm T S r).getD 0 ⟨#[]⟩=tS T (au S r).h:=(v9 P).2;rw[e0]
 cases e:aI (fF T S (cw T S r) (cw T S r).length) (tS T (au S r).h)
 ·rfl
 ·exfalso
  unfold aI at e;obtain⟨y,hy,e2⟩:=List.any_eq_true.1 e;unfold fF at hy;obtain⟨i,hi,rfl⟩:=List.mem_map.1 hy;unfold vj at hi;obtain⟨i1,i2⟩:=List.mem_filter.1 hi;have i1:=List.mem_range.1 i1;have eg:(cw T S r).getD i 0=(cw T S r)[i]:=by rw[List.getD_eq_getElem?_getD,List.getElem?_eq_getElem i1];rfl
  unfold Cr at i2;rw[eg]at i2 e2;have hj:=qq T S r (cw T S r)[i] (List.getElem_mem i1);generalize (cw T S r)[i]=j at *;have Pj:=nJ p hall j (by omega) (gd i2 (by decide));obtain⟨w1,w2⟩:=Lm Pj i2;have e3:cm T S j=bV T (au S j).h:=rfl;rw[e3,w2]at e2
  have e4:tS T ((au S j).h+1)=tS T (au S r).h:=by
   have:(tS T ((au S j).h+1)).toList=(tS T (au S r).h).toList:=by simpa using e2
   apply ByteArray.ext
   apply Array.toList_inj.1
   rw[<-ByteArray.toList_eq,<-ByteArray.toList_eq,this]
  rw[e4]at w1;exact yi p hall (by omega) (by omega) hc w1
end
theorem Ju(T:List Tk)(hT:T.length<=10000)(hall:∀q,q<T.length->a9 T (as T) q=0)(n:Nat)(hn:n<=(as T).length):m8 T (as T) n:=by
 have p:=fM T;have hl:(as T).length<=T.length:=sD T T.length;obtain⟨ok,fo⟩:=A6 T (by omega) hall;have h:m8 T (as T) (as T).length:=⟨ok,by omega,hT,fun j hj hk=>rr (nJ p hall j hj hk),fo⟩;exact h.mono hn
def Cs(S:List Sm)(a r:Nat):Prop:=r<a/\(aE (au S r).k||aH (au S r).k)=true
structure Kf(T:List Tk)(S:List Sm)(a i:Nat)(s:cQ):Prop where
 nd:s.need<=10000
 ways:s.ref=-1∨(s.ref=-2/\s.back<i)∨∃r,Cs S a r/\s.ref=(r:Nat)/\s.need=gy T S (r:Nat)
def lA(T:List Tk)(S:List Sm)(a:Nat)(P:List cQ):Prop:=∀i,i<P.length->Kf T S a i (bG P i)
section
variable {T:List Tk} {S:List Sm} {a:Nat}
theorem lA.snoc{P:List cQ}{s:cQ}(h:lA T S a P)(hs:Kf T S a P.length s):lA T S a (P++[s]):=fun i hi=>by
 rw[List.length_append,List.length_cons,List.length_nil]at hi
 by_cases e:i<P.length
 ·have e2:bG (P++[s]) i=bG P i:=by unfold bG;rw[List.getD_eq_getElem?_getD,List.getD_eq_getElem?_getD,List.getElem?_append_left e]
  rw[e2];exact h i e
 ·have e1:i=P.length:=by omega
  have e2:bG (P++[s]) i=s:=by unfold bG;rw[e1,List.getD_eq_getElem?_getD,List.getElem?_append_right (Nat.le_refl _),Nat.sub_self];rfl
  rw[e2,e1];exact hs
theorem lA.nil:lA T S a []:=fun i hi=>by simp at hi
theorem ym(ha:a<=10000){r:Nat}(hr:r<a):gy T S (r:Nat)<=10000:=by
 unfold gy
 split
 ·omega
 ·split
  ·have:=kV T S (r:Int).toNat
   rw[Int.toNat_natCast]at this ⊢;omega
  ·omega
theorem vT{x:ByteArray}{k:Nat}(h:dQ T S a x=(k:Int)):Cs S a k:=by
 have hw:=nH T S a x;rw[h]at hw
 rcases hw with e | ⟨q,hq,e⟩
 ·omega
 ·have e1:k=q:=by omega
  subst e1;refine⟨hq,?_⟩;unfold dQ at h
  split at h
  ·omega
  ·split at h
   ·unfold bn at h
    cases hf:(List.range a).find? (oD T S x) with
    | none=>rw[hf]at h;simp at h
    | some j =>
     rw[hf]at h;have ej:j=k:=by have h:(j:Int)=(k:Int):=h;omega
     have hp:=List.find?_some hf;rw[ej]at hp;unfold oD at hp;rw[Bool.and_eq_true]at hp
     cases ha:(aE (au S k).k||aH (au S k).k)
     ·exfalso
      have:cg T (au S k)=⟨#[]⟩:=by unfold cg;rw[ha,if_neg (by simp)]
      rw[this]at hp;exact absurd hp.1 (by decide +kernel)
     ·rfl
   ·omega
theorem FI(ha:a<=10000)(zt:Nat)(n:Nat):∀i P,lA T S a P->lA T S a (lF T S a zt n i P).st/\((lF T S a zt n i P).why=0->0<(lF T S a zt n i P).st.length)/\(lF T S a zt n i P).st.length<=P.length+n:=by
 induction n with
 | zero =>
  intro i P hP;rw[lF]
  split
  ·exact⟨lA.nil,fun h=>(by cases h),Nat.zero_le _⟩
  ·exact⟨hP,fun _=>(by simp only;omega),(by simp)⟩
 | succ n ih =>
  intro i P hP;rw[lF]
  split
  ·obtain⟨h1,h2,h3⟩:=ih (i+1) _ (hP.snoc (s:=⟨-1,0,0,(T.getD i ic).file,(T.getD i ic).line,(T.getD i ic).col⟩) ⟨by show 0<=10000;omega,Or.inl rfl⟩)
   exact⟨h1,h2,by simp at h3 ⊢;omega⟩
  ·split
   ·exact⟨lA.nil,fun h=>(by cases h),Nat.zero_le _⟩
   ·next h1 h2 =>
    obtain⟨k,hk⟩:∃k:Nat,dQ T S a (tS T i)=k:=⟨(dQ T S a (tS T i)).toNat,by omega⟩
    have hr:=vT hk;rw[hk];obtain⟨h1,h2,h3⟩:=ih (i+1) _ (hP.snoc (s:=⟨(k:Int),0,gy T S (k:Int),(T.getD i ic).file,(T.getD i ic).line,(T.getD i ic).col⟩) ⟨ym ha hr.1,Or.inr (Or.inr ⟨k,hr,rfl,rfl⟩)⟩);exact⟨h1,h2,by simp at h3 ⊢;omega⟩
theorem GD(ha:a<=10000)(refs:List Nat)(hrefs:∀r∈refs,Cs S a r)(en:Lt)(L:List Lt):∀P tags num fr,lA T S a P->(∀t∈tags,t<P.length)->(fr=true->0<P.length) ->
  lA T S a (lD T S refs en L P tags num fr).st/\((lD T S refs en L P tags num fr).why=0->0<(lD T S refs en L P tags num fr).st.length)/\(lD T S refs en L P tags num fr).st.length<=P.length+L.length:=by
 induction L with
 | nil =>
  intro P tags num fr hP _ _;rw[lD]
  split
  ·exact⟨lA.nil,fun h=>(by cases h),Nat.zero_le _⟩
  ·split
   ·exact⟨lA.nil,fun h=>(by cases h),Nat.zero_le _⟩
   ·exact⟨hP,fun _=>(by simp only;omega),(by simp)⟩
 | cons l L ih =>
  intro P tags num fr hP hT hF;rw[lD]
  split
  ·obtain⟨h1,h2,h3⟩:=ih P tags (num++Ac l.c) false hP hT (fun h=>by cases h)
   exact⟨h1,h2,by simp at h3 ⊢;omega⟩
  ·split
   ·split
    ·exact⟨lA.nil,fun h=>(by cases h),Nat.zero_le _⟩
    ·next hz =>
     have hle:=vX (num++Ac l.c) (refs.length+tags.length);generalize gG (num++Ac l.c) (refs.length+tags.length)=m at *
     have hs:Kf T S a P.length (pu T S refs tags m l):=by
      unfold pu
      split
      ·next hm =>
       have hq:m-1<refs.length:=by omega
       have e:refs.getD (m-1) 0=refs[m-1]:=by rw[List.getD_eq_getElem?_getD,List.getElem?_eq_getElem hq];rfl
       have hr:=hrefs refs[m-1] (List.getElem_mem hq);rw[e];exact⟨ym ha hr.1,Or.inr (Or.inr ⟨_,hr,rfl,rfl⟩)⟩
      ·next hm =>
       have hq:m-refs.length-1<tags.length:=by omega
       have e:tags.getD (m-refs.length-1) 0=tags[m-refs.length-1]:=by rw[List.getD_eq_getElem?_getD,List.getElem?_eq_getElem hq];rfl
       rw[e];exact⟨by show 0<=10000;omega,Or.inr (Or.inl ⟨rfl,hT _ (List.getElem_mem hq)⟩)⟩
     obtain⟨h1,h2,h3⟩:=ih _ tags ⟨#[]⟩ true (hP.snoc hs) (fun t ht=>by rw[List.length_append];have:=hT t ht;omega) (fun _=>by simp);exact⟨h1,h2,by simp at h3 ⊢;omega⟩
   ·split
    ·next hz =>
     have hp:=hF hz.2
     obtain⟨h1,h2,h3⟩:=ih P (tags++[P.length-1]) num false hP (fun t ht=>by
      rcases List.mem_append.1 ht with h | h
      ·exact hT t h
      ·rw[List.mem_singleton.1 h];omega) (fun h=>by cases h)
     exact⟨h1,h2,by simp at h3 ⊢;omega⟩
    ·split
     ·obtain⟨h1,h2,h3⟩:=ih _ tags num false (hP.snoc (s:=⟨-1,0,0,l.file,l.line,l.col⟩) ⟨by show 0<=10000;omega,Or.inl rfl⟩) (fun t ht=>by rw[List.length_append];have:=hT t ht;omega) (fun h=>by cases h)
      exact⟨h1,h2,by simp at h3 ⊢;omega⟩
     ·exact⟨lA.nil,fun h=>(by cases h),Nat.zero_le _⟩
theorem JQ(ha:a<=10000)(hO:eB T)(zt:Nat)(n:Nat):∀i refs,(∀r∈refs,Cs S a r)->lA T S a (se T S a zt n i refs).st/\((se T S a zt n i refs).why=0->0<(se T S a zt n i refs).st.length)/\(se T S a zt n i refs).st.length<=1024*T.length:=by
 induction n with
 | zero=>intro i refs _;rw[se];exact⟨lA.nil,fun h=>(by cases h),Nat.zero_le _⟩
 | succ n ih =>
  intro i refs hr;rw[se]
  split
  ·obtain⟨h1,h2,h3⟩:=GD (T:=T) ha refs hr (Cc (T.getD zt ic)) (dV T (i+1) zt) [] [] ⟨#[]⟩ false lA.nil (fun t ht=>by cases ht) (fun h=>by cases h)
   have:=tL T hO (i+1) zt;rw[List.length_nil,Nat.zero_add]at h3;exact⟨h1,h2,by unfold iT;omega⟩
  ·split
   ·exact⟨lA.nil,fun h=>(by cases h),Nat.zero_le _⟩
   ·split
    ·exact⟨lA.nil,fun h=>(by cases h),Nat.zero_le _⟩
    ·next h1 h2 h3 =>
     obtain⟨k,hk⟩:∃k:Nat,dQ T S a (tS T i)=k:=⟨(dQ T S a (tS T i)).toNat,by omega⟩
     refine ih (i+1) _ (fun r hr2=>?_)
     rcases List.mem_append.1 hr2 with h | h
     ·exact hr r h
     ·rw[List.mem_singleton.1 h,hk,Int.toNat_natCast];exact vT hk
theorem ub(ha:a<=10000)(hO:eB T)(hT:T.length<=10000)(e zt:Nat)(hz:zt<=T.length):lA T S a (fe T S a e zt).st/\((fe T S a e zt).why=0->0<(fe T S a e zt).st.length)/\(fe T S a e zt).st.length<=100000000:=by
 unfold fe
 split
 ·unfold iQ
  obtain⟨h1,h2,h3⟩:=JQ (T:=T) (S:=S) ha hO zt (zt-(e+2)) (e+2) (cw T S a) (fun r hr=>by
   obtain⟨k1,-,k3⟩:=wl T S a r hr;exact⟨k1,by rw[k3];simp⟩)
  exact⟨h1,h2,by omega⟩
 ·obtain⟨h1,h2,h3⟩:=FI (T:=T) (S:=S) ha zt (zt-(e+1)) (e+1) [] lA.nil
  exact⟨h1,h2,by simp at h3;omega⟩
theorem Ej(ha:a<=10000)(hO:eB T)(hT:T.length<=10000)(e zt:Nat)(hz:zt<=T.length):FQ T S a (fe T S a e zt):=by
 obtain⟨k1,k2,k3⟩:=ub (T:=T) (S:=S) ha hO hT e zt hz;refine⟨k3,fun i=>?_,fun h=>⟨k2 h,fun i hi hne=>⟨?_⟩⟩⟩
 ·by_cases hi:i<(fe T S a e zt).st.length
  ·have:=(k1 i hi).nd;omega
  ·have:bG (fe T S a e zt).st i=LB:=by unfold bG;rw[List.getD_eq_getElem?_getD,List.getElem?_eq_none (by omega)];rfl
   rw[this];show 0<=100000;omega
 ·rcases(k1 i hi).ways with h | ⟨h,hb⟩ | ⟨r,hr,h1,h2⟩
  ·exact absurd h hne
  ·exact Or.inl ⟨h,hb⟩
  ·refine Or.inr ⟨r,hr.1,h1,hr.2,fun hk=>?_⟩
   rw[h2];unfold gy;rw[if_neg (by omega),Int.toNat_natCast,if_pos hk]
end
def vt(t:Tk):Prop:=t.s.size<=1024/\0<=t.col/\t.col<=10000
theorem xo:eB []:=fun t ht=>by cases ht
theorem kO{L M:List Tk}(h:eB L)(k:eB M):eB (L++M):=fun t ht=>by
 rcases List.mem_append.1 ht with e | e
 ·exact h t e
 ·exact k t e
theorem kc{t:Tk}(h:vt t):eB [t]:=fun u hu=>by rw[List.mem_singleton.1 hu];exact h
theorem pV{t:Tk}(r:Int)(h:vt t):vt (oL t r):=⟨by show(0:Nat)<=1024;omega,h.2⟩
theorem wX(nm d s:ByteArray)(r:Int)(k:Nat)(hs:s.size<=1024)(hk:k<=1024):vt (kL nm d s r k):=by
 have:=wN d k;exact⟨hs,by show 0<=aW d k;omega,by show aW d k<=10000;omega⟩
theorem zI(nm d:ByteArray)(a z:Nat)(L:List Tk)(hL:eB L)(haz:a<=z)(hz:z<=1024):eB (gQ nm d a z L):=by
 unfold gQ
 split
 ·exact hL
 ·exact kO hL (kc (wX nm d _ 0 a (by rw[ByteArray.size_extract];omega) (by omega)))
theorem zD(nm d:ByteArray)(i:Nat)(hi:i<=1024):eB (hZ nm d i):=by
 induction i with
 | zero=>exact xo
 | succ i ih =>
  rw[hZ]
  split
  ·exact zI nm d _ i _ (ih (by omega)) (mu d i) (by omega)
  ·exact ih (by omega)
theorem DF(nm d:ByteArray)(hd:d.size<=1024):eB (fS nm d):=by
 unfold fS
 split
 ·next i h =>
  have hi:i<d.size:=List.mem_range.1 (List.mem_of_find?_eq_some h);exact kO (zD nm d i (by omega)) (kc (wX nm d _ 1 i (by show(0:Nat)<=1024;omega) (by omega)))
 ·exact kO (zI nm d _ _ _ (zD nm d _ hd) (mu d _) hd) (kc (wX nm d _ 0 _ (by show(0:Nat)<=1024;omega) hd))
theorem tI{t:Tk}{L:List Tk}(h:vt t)(k:eB L):eB (t :: L):=fun u hu=>by
 rcases List.mem_cons.1 hu with e | e
 ·rw[e];exact h
 ·exact k u e
theorem Ii(b:Bool)(L:List Tk)(h:eB L):eB (bJ b L):=by
 induction L generalizing b with
 | nil=>cases b <;> exact xo
 | cons t L ih =>
  have ht:vt t:=h t (List.mem_cons_self ..);have hL:eB L:=fun u hu=>h u (List.mem_cons_of_mem _ hu)
  have hz:∀r,vt ⟨⟨#[]⟩,r,t.file,t.line,t.col⟩:=fun r=>⟨by show(0:Nat)<=1024;omega,ht.2⟩
  cases b
  ·rw[bJ]
   split
   ·exact ih true hL
   ·exact tI ht (ih false hL)
  ·rw[bJ]
   split
   ·exact tI ht (ih true hL)
   ·split
    ·exact ih false hL
    ·split
     ·exact tI (hz 3) (ih true hL)
     ·split
      ·exact kc (hz 2)
      ·exact ih true hL
theorem DE(rec:Nat->List Bool->List Tk->List Tk×List Bool)(hrec:∀k sn out,eB out->eB (rec k sn out).1)(fs:Fs)(n:Nat):∀L,L.length<=n->eB L->∀sn out,eB out->eB (b9 rec fs L sn out).1:=by
 induction n with
 | zero =>
  intro L hl _ sn out ho
  cases L with
  | nil=>rw[b9];exact ho
  | cons _ _=>simp at hl
 | succ n ih =>
  intro L hl hL sn out ho
  cases L with
  | nil=>rw[b9];exact ho
  | cons t r =>
   have ht:vt t:=hL t (List.mem_cons_self ..);have hr:eB r:=fun u hu=>hL u (List.mem_cons_of_mem _ hu)
   have hl1:r.length<=n:=by simpa using hl
   rw[b9.eq_def];simp only
   split
   ·split
    ·exact ho
    ·exact kO ho (kc (pV 7 ht))
   ·split
    ·exact ih r hl1 hr sn _ (kO ho (kc ht))
    ·split
     ·exact kO ho (kc (pV 4 ht))
     ·cases r with
      | nil=>exact ho
      | cons a r =>
       have ha:vt a:=hr a (List.mem_cons_self ..)
       cases r with
       | nil=>exact kO ho (kc (pV _ ha))
       | cons b r =>
        have hb:vt b:=hr b (List.mem_cons_of_mem _ (List.mem_cons_self ..));have hr2:eB r:=fun u hu=>hr u (List.mem_cons_of_mem _ (List.mem_cons_of_mem _ hu))
        have hl2:r.length<=n:=by simp at hl1;omega
        simp only
        split
        ·exact kO ho (kc (pV _ ha))
        ·split
         ·exact kO ho (kc (pV _ hb))
         ·split
          ·exact ih r hl2 hr2 sn out ho
          ·split
           ·exact hrec _ sn out ho
           ·exact ih r hl2 hr2 _ _ (hrec _ sn out ho)
theorem DD(fs:Fs)(hfd:∀k,(aj fs k).size<=1024)(n:Nat):∀k sn out,eB out->eB (dx fs n k sn out).1:=by
 induction n with
 | zero=>intro k sn out ho;exact ho
 | succ n ih =>
  intro k sn out ho;rw[dx];exact DE _ ih fs _ _ (Nat.le_refl _) (Ii _ _ (DF _ _ (hfd k))) _ _ ho
theorem Gn(fs:Fs)(k:Nat)(hfd:∀k,(aj fs k).size<=1024):eB (da fs k).1:=by
 have h:eB (np fs k):=DD fs hfd _ _ _ _ xo;unfold da
 split
 ·exact fun t ht=>h t (List.dropLast_subset _ ht)
 ·exact h
def xq(T:List Tk)(S:List Sm)(j:Nat):Nat:=(au S j).h+(bV T (au S j).h).length
theorem Le(p:ByteArray->Bool)(L:List ByteArray)(h:∃x∈L,p x=false):(L.takeWhile p).length<L.length/\p (L.getD (L.takeWhile p).length ⟨#[]⟩)=false/\∀q,q<(L.takeWhile p).length->p (L.getD q ⟨#[]⟩)=true:=by
 induction L with
 | nil=>obtain⟨x,hx,-⟩:=h;cases hx
 | cons a L ih =>
  cases ha:p a
  ·rw[List.takeWhile_cons,if_neg (by rw[ha];simp)]
   exact⟨by simp,ha,fun q hq=>by simp at hq⟩
  ·rw[List.takeWhile_cons,if_pos ha]
   obtain⟨h1,h2,h3⟩:=ih (by
    obtain⟨x,hx,hp⟩:=h
    rcases List.mem_cons.1 hx with e | e
    ·rw[e,ha]at hp;cases hp
    ·exact⟨x,e,hp⟩)
   refine⟨by simp;omega,h2,fun q hq=>?_⟩
   cases q with
   | zero=>exact ha
   | succ q=>exact h3 q (by simpa using hq)
theorem KI{T:List Tk}{S:List Sm}{j:Nat}(P:tR T S j)(hk:((au S j).k.toList == [36,112])=true) :
  (au S j).h<=xq T S j/\((tS T (xq T S j)).toList == [36,61])=true/\(∀q,(au S j).h<=q->q<xq T S j->((tS T q).toList == [36,61])=false)/\xq T S j<(au S j).z-1:=by
 have hz:=P.zt;have hz0:=P.pos;have hle:=P.le;have hc:=P.cl;have hl:=nM T (au S j).h ((au S j).z-1) hle (by omega)
 have hB:aI (eF T (au S j).h ((au S j).z-1)) ⟨#[36,61]⟩=true:=by
  unfold fT at hc
  split at hc
  ·cases hc
  ·split at hc
   ·cases hc
   ·cases e:aI (eF T (au S j).h ((au S j).z-1)) ⟨#[36,61]⟩
    ·rw[hk,e,if_pos (by decide)]at hc;cases hc
    ·rfl
 obtain⟨y,hy,ey⟩:=List.any_eq_true.1 hB
 have hex:∃x∈eF T (au S j).h ((au S j).z-1),jD x=false:=by
  refine⟨y,hy,?_⟩;unfold jD;have e:y.toList=(⟨#[36,61]⟩:ByteArray).toList:=by simpa using ey
  rw[e];decide +kernel
 obtain⟨h1,h2,h3⟩:=Le jD _ hex;rw[<-uv P]at h1 h2 h3;rw[hl]at h1;unfold xq;refine⟨by omega,?_,fun q q1 q2=>?_,by omega⟩
 ·rw[pO T _ _ _ (by omega) (by omega)]at h2
  unfold jD at h2;simpa using h2
 ·have:=h3 (q-(au S j).h) (by omega)
  rw[pO T _ _ _ (by omega) (by omega),show(au S j).h+(q-(au S j).h)=q by omega]at this;unfold jD at this;simpa using this
def LF(T:List Tk)(S:List Sm)(a:Nat):jE:=fe T S a (xq T S a) ((au S a).z-1)
def LR(T:List Tk)(S:List Sm)(a:Nat):j6:=qh T S a (LF T S a) (T.getD ((au S a).z-1) ic)
theorem zx.keptS{w w':World}{ao:Option Addr}{cap:Nat}{L:List Sm}{S:List Nat}(h:zx w ao cap L)(k:ab S w w')(hS:∀g,ao=some ⟨g,0,none⟩->g∉S):zx w' ao cap L:=by
 refine⟨h.1,fun j t ht=>?_⟩;obtain⟨g,e,hg,c0,c1,c2,c3⟩:=h.2 j t ht;have q:∀o,w'.cell? ⟨g,o,none⟩=w.cell? ⟨g,o,none⟩:=fun o=>World.cell?_of_block (k.block g hg (hS g e))
 exact⟨g,e,Nat.lt_of_lt_of_le hg k.size,by rw[q];exact c0,by rw[q];exact c1,by rw[q];exact c2,by rw[q];exact c3⟩
theorem ff.off{w wx:World}{b v:Nat}{T:List Tk}{aoT:Option Addr}{cT:Nat}{S:List Sm}{aoS:Option Addr}{cS:Nat}{ao:Option Addr}{n c:Nat}{x1 x2 x3 x4:Value}(h:ff w b T aoT cT S aoS cS)(hv:w.heap[v]?=some (.cells #[.slice ao n c,x1,x2,x3,x4] 85 (0,0)))(k:ab [v] w wx):ff wx b T aoT cT S aoS cS:=by
 have v0:w.cell? ⟨v,0,none⟩=some (.slice ao n c):=by rw[aa hv];rfl
 refine⟨k.get h.d (fun hb=>?_),?_,?_⟩
 ·simp at hb
  subst hb;have:=h.d.symm.trans hv;simp at this
 ·cases hT:T with
  | nil=>rw[hT]at h;exact⟨h.t.1,fun j t ht=>by simp at ht⟩
  | cons t L =>
   rw[hT]at h;refine h.t.keptS k (fun g e hq=>?_);simp at hq;subst hq;obtain⟨g,e',-,c0,-⟩:=h.t.2 0 t rfl;rw[e']at e;cases e;rw[Nat.zero_mul]at c0;rw[v0]at c0;cases c0
 ·cases hS:S with
  | nil=>rw[hS]at h;exact⟨h.s.1,fun j t ht=>by simp at ht⟩
  | cons t L =>
   rw[hS]at h;refine h.s.keptS k (fun g e hq=>?_);simp at hq;subst hq;obtain⟨g,e',-,c0,-⟩:=h.s.2 0 t rfl;rw[e']at e;cases e;rw[Nat.zero_mul]at c0;rw[v0]at c0;cases c0
theorem Ai(v b:Nat)(T:List Tk)(aoT:Option Addr)(cT:Nat)(aoS:Option Addr)(cS:Nat)(ao:Option Addr)(n c:Nat)(x1 y3 y4:Value)(w:World)
  (hv:w.heap[v]?=some (.cells #[.slice ao n c,x1,.pointer (some ⟨b,0,none⟩),y3,y4] 85 (0,0)))
  (hD:ff w b T aoT cT (as T) aoS cS) (hT:T.length<=10000) (hO:eB T) (hall:∀q,q<T.length->a9 T (as T) q=0) :
  Calls Tryz.prog 57 #[.pointer (some ⟨v,0,none⟩)] w fun e w'=>Gf T (as T) v b (.slice ao n c) x1 (LF T (as T)) (LR T (as T)) w e w':=by
 have p:=fM T;have hl:(as T).length<=T.length:=sD T T.length;have hD':∀wx,ab [v] w wx->ff wx b T aoT cT (as T) aoS cS:=fun wx k=>hD.off hv k
 have ends:∀a,uW (as T) a=true->bY (au (as T) a).k=false:=fun a h=>gd h (by decide)
 refine AG v b T aoT cT (as T) aoS cS _ x1 y3 y4 _ _ w hv hD' (by omega) (Ju T hT hall _ (Nat.le_refl _)).ok.a ?_ ?_ ?_
 ·intro a ha hp wx kx
  have P:=nJ p hall a ha (ends a hp);obtain⟨e1,e2,e3,e4⟩:=KI P hp;have:=P.pos;have:=P.zt;exact Ax b a (xq T (as T) a) ((au (as T) a).z-1) T aoT cT _ aoS cS wx (hD' wx kx) (Ju T hT hall a (by omega)) ha (rr P) hO e1 e2 e3 (by omega) e4 (by omega) P.dot
 ·intro a ha hp hp' wx kx hs
  have P:=nJ p hall a ha (ends a hp);have:=P.pos;have:=P.zt;exact xn b a ((au (as T) a).z-1) T aoT cT _ aoS cS (LF T (as T) a) hp' wx (hD' wx kx) (Ju T hT hall a (by omega)) (Lv p hall a (by omega)) (LE p hall a (by omega)) ha (rr P) ((Ju T hT hall _ (Nat.le_refl _)).ok.a a ha) (by omega) (by omega) hs (Ej (by omega) hO hT _ _ (by omega))
 ·intro a ha hp
  have P:=nJ p hall a ha (ends a hp);have:=P.zt;obtain⟨k1,-,k3⟩:=ub (T:=T) (S:=as T) (a:=a) (by omega) hO hT (xq T (as T) a) ((au (as T) a).z-1) (by omega);refine⟨k3,fun i hi=>?_⟩
  show(bG (fe T (as T) a (xq T (as T) a) ((au (as T) a).z-1)).st i).ref<=(a:Int)
  rcases(k1 i hi).ways with h | ⟨h,-⟩ | ⟨r,hr,h1,-⟩
  ·rw[h];omega
  ·rw[h];omega
  ·rw[h1];have:=hr.1;omega
end Go.Proofs.YtpddjjabfbfifaaGreat

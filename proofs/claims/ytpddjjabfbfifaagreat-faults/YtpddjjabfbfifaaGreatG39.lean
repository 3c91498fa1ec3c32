import Derived.Test.YtpddjjabfbfifaaGreatG35
import Derived.Test.YtpddjjabfbfifaaGreatG36
namespace Go.Proofs.YtpddjjabfbfifaaGreat
open Go.RowKit
set_option maxHeartbeats 40000000
theorem gW{l m:List UInt8}{x:ByteArray}(h:(x.toList==l)=true):(x.toList==m)=(l==m):=by
 have:x.toList=l:=by simpa using h
 rw[this]
section
variable {T:List Tk} {S:List Sm} {f:Nat}
structure sR(T:List Tk)(S:List Sm)(j:Nat):Prop where
 le:(au S j).h<=(au S j).z-1
 zt:(au S j).z<=T.length
 pos:0<(au S j).z
 dot:((tS T ((au S j).z-1)).toList == [36,46])=true
 cl:fV (au S j).k (eE T (au S j).h ((au S j).z-1))=0
 w:∀q,(au S j).h<=q->q<(au S j).z-1->kp T S (au S j).k (tS T q) j (eE T (au S j).h q)=0/\bZ (tS T q)=false
theorem nV(p:z9 T T.length S f)(hall:∀q,q<T.length->aZ T S q=0)(j:Nat)(h:j<S.length)(hk:bZ (au S j).k=false):sR T S j:=by
 have hW:=Da p j h;obtain⟨P,hzT⟩:=p.s j h
 have core:(au S j).h<=(au S j).z-1->(au S j).a<(au S j).h->sR T S j:=fun hle hah=>by
  have hlt:=P.lt;have L0:=hall ((au S j).z-1) (by omega);rw[hW ((au S j).z-1) (by omega) (by omega),if_neg (by omega),if_neg (by omega)]at L0;obtain⟨d1,d2⟩:=uo P.e L0;refine⟨hle,hzT,by omega,d1,d2,fun q h1 h2=>?_⟩;have Q:=hall q (by omega);rw[hW q (by omega) (by omega),if_neg (by omega),if_neg (by omega)]at Q;exact⟨Q,P.n q (by omega) h2⟩
 have ky:=P.k;have lt:=P.lt;unfold dY at ky
 by_cases hA:(ge (tS T (au S j).a) ⟨#[36]⟩||decide (T.length<=(au S j).a+1))=true
 ·rw[if_pos hA]at ky
  have e1:(au S j).k=tS T (au S j).a:=congrArg Prod.fst ky;have e2:(au S j).h=(au S j).a+1:=congrArg Prod.snd ky;refine core ?_ (by omega)
  by_cases hz:(au S j).z-1=(au S j).a
  ·have:=P.e
   rw[hz,<-e1,hk]at this
   cases this
  ·omega
 ·rw[if_neg hA]at ky
  have e1:(au S j).k=tS T ((au S j).a+1):=congrArg Prod.fst ky;have e2:(au S j).h=(au S j).a+2:=congrArg Prod.snd ky
  have hno:ge (tS T (au S j).a) ⟨#[36]⟩=false:=by
   cases e:ge (tS T (au S j).a) ⟨#[36]⟩
   ·rfl
   ·rw[e]at hA;exact absurd rfl hA
  refine core ?_ (by omega)
  have hz1:(au S j).z-1≠(au S j).a:=fun e=>by
   have:=(kz P.e).1;rw[e,hno]at this;cases this
  have hz2:(au S j).z-1≠(au S j).a+1:=fun e=>by
   have:=P.e;rw[e,<-e1,hk]at this;cases this
  omega
theorem pK(T:List Tk)(h i q:Nat)(h1:h+q<i)(h2:i<=T.length):(eE T h i).getD q ⟨#[]⟩=tS T (h+q):=by
 unfold eE tS;rw[List.getD_eq_getElem?_getD,List.getElem?_map,List.getElem?_take,if_pos (by omega),List.getElem?_drop,List.getD_eq_getElem?_getD];rw[List.getElem?_eq_getElem (by omega)];rfl
theorem nB(T:List Tk)(h i:Nat)(h1:h<=i)(h2:i<=T.length):(eE T h i).length=i-h:=by
 unfold eE;rw[List.length_map,List.length_take,List.length_drop];omega
theorem uG{j:Nat}(P:sR T S j):bV T (au S j).h=(eE T (au S j).h ((au S j).z-1)).takeWhile jE:=by
 have hzl:=P.zt;have hz0:=P.pos;have hle:=P.le;unfold bV
 have e:T.drop (au S j).h=(T.drop (au S j).h).take ((au S j).z-1-(au S j).h)++(T.getD ((au S j).z-1) ic) :: T.drop (au S j).z:=by
  conv=>lhs;rw[<-List.take_append_drop ((au S j).z-1-(au S j).h) (T.drop (au S j).h)]
  rw[List.drop_drop,show(au S j).h+((au S j).z-1-(au S j).h)=(au S j).z-1 by omega,Cz T ((au S j).z-1) (by omega),show(au S j).z-1+1=(au S j).z by omega]
 rw[e,show ∀(L:List Tk) (t:Tk) (M:List Tk),L++t :: M=(L++[t])++M from fun L t M=>by simp,vE]
 ·rw[yc _ _ (fun u hu=>?_) P.dot]
  ·rfl
  ·obtain⟨q,hq,e2⟩:=List.getElem_of_mem hu
   rw[List.length_take,List.length_drop]at hq;have:=(P.w ((au S j).h+q) (by omega) (by omega)).2;unfold bZ at this;simp only[Bool.or_eq_false_iff]at this
   have e3:u.s=tS T ((au S j).h+q):=by
    rw[<-e2,List.getElem_take,List.getElem_drop];unfold tS;rw[List.getD_eq_getElem?_getD,List.getElem?_eq_getElem (by omega)];rfl
   rw[e3];exact this.1.1
 ·exact⟨T.getD ((au S j).z-1) ic,by simp,qs P.dot⟩
theorem rx{j:Nat}(P:sR T S j):eD T (au S j).h:=⟨(au S j).z-1,P.le,by have:=P.zt;have:=P.pos;omega,qs P.dot⟩
theorem sJ{key x:ByteArray}{n:Nat}{B:List ByteArray}(h:kp T S key x n B=0)(hx:(x.toList == [36,61])=true):(key.toList == [36,112])=true/\aI B ⟨#[36,61]⟩=false/\B.length≠0:=by
 unfold kp at h;rw[gW hx (m:=[36,46]),if_neg (by decide),hx,Bool.true_and]at h
 cases h1:(key.toList == [36,112])
 ·rw[h1,Bool.false_and,if_neg (by simp),if_pos (by rw[mI hx];decide +kernel)]at h;cases h
 ·cases h2:aI B ⟨#[36,61]⟩
  ·rw[h1,h2]at h
   by_cases hz:B.length=0
   ·rw[if_pos (by rfl),if_pos hz]at h;cases h
   ·exact⟨rfl,rfl,hz⟩
  ·rw[h1,h2,if_neg (by decide),if_pos (by rw[mI hx];decide +kernel)]at h;cases h
end
section
variable {T:List Tk} {S:List Sm} {f:Nat}
theorem wM(T:List Tk)(h:Nat):eE T h h=[]:=by unfold eE;rw[Nat.sub_self];simp
theorem sN{j:Nat}(P:sR T S j):0<(eE T (au S j).h ((au S j).z-1)).length/\(((au S j).k.toList == [36,102])=true->1<(eE T (au S j).h ((au S j).z-1)).length):=by
 have hc:=P.cl;unfold fV at hc
 split at hc
 ·cases hc
 ·next h1 =>
  split at hc
  ·cases hc
  ·next h2 =>
   refine⟨by omega,fun hk=>?_⟩;have:¬(eE T (au S j).h ((au S j).z-1)).length<2:=fun hl=>h2 (by rw[hk];simp[hl])
   omega
theorem wL{h i:Nat}{x:ByteArray}(h1:h<=i)(h2:i<=T.length)(hx:aI (eE T h i) x=true):∃q,h<=q/\q<i/\tS T q=x:=by
 unfold aI at hx;obtain⟨y,hy,e⟩:=List.any_eq_true.1 hx;obtain⟨q,hq,e2⟩:=List.getElem_of_mem hy;rw[nB T h i h1 h2]at hq;refine⟨h+q,by omega,by omega,?_⟩;have e3:=pK T h i q (by omega) h2;rw[List.getD_eq_getElem?_getD,List.getElem?_eq_getElem (by rw[nB T h i h1 h2];exact hq)]at e3;have e4:(eE T h i)[q]=tS T (h+q):=e3;rw[<-e4,e2];have:y.toList=x.toList:=by simpa using e
 apply ByteArray.ext
 apply Array.toList_inj.1
 rw[<-ByteArray.toList_eq,<-ByteArray.toList_eq,this]
theorem ru{j:Nat}(P:sR T S j)(hk:((au S j).k.toList == [36,112])=false):bV T (au S j).h=eE T (au S j).h ((au S j).z-1):=by
 rw[uG P];refine sH _ ?_
 cases e:aI (eE T (au S j).h ((au S j).z-1)) ⟨#[36,61]⟩
 ·rfl
 ·have hz:=P.zt
  have hz0:=P.pos;obtain⟨q,h1,h2,e2⟩:=wL P.le (by omega) e;have hr:=(P.w q h1 h2).1;have:=(sJ hr (by rw[e2];decide +kernel)).1;rw[hk]at this;cases this
theorem rt{j:Nat}(P:sR T S j):((tS T (au S j).h).toList == [36,61])=false/\(au S j).h<(au S j).z-1:=by
 have hl:=(sN P).1;have hz:=P.zt;have hz0:=P.pos;rw[nB T _ _ P.le (by omega)]at hl;have hlt:(au S j).h<(au S j).z-1:=by omega
 refine⟨?_,hlt⟩
 cases e:((tS T (au S j).h).toList == [36,61])
 ·rfl
 ·have hr:=(P.w _ (Nat.le_refl _) hlt).1
  have:=(sJ hr e).2.2;rw[wM]at this;exact absurd rfl this
theorem wi{j:Nat}(P:sR T S j):0<(bV T (au S j).h).length/\(bV T (au S j).h).getD 0 ⟨#[]⟩=tS T (au S j).h:=by
 obtain⟨h1,h2⟩:=rt P;have hz:=P.zt;have hg:=pK T (au S j).h ((au S j).z-1) 0 (by omega) (by omega);have hl:=(sN P).1;rw[uG P];rw[Nat.add_zero]at hg;generalize eE T (au S j).h ((au S j).z-1)=B at *
 cases B with
 | nil=>simp at hl
 | cons x B =>
  have e:x=tS T (au S j).h:=hg;have hq:jE x=true:=by unfold jE;rw[e,h1];rfl
  rw[List.takeWhile_cons_of_pos hq];exact⟨by simp,e⟩
theorem Lk(p:z9 T T.length S f)(hall:∀q,q<T.length->aZ T S q=0)(n:Nat)(hn:n<=S.length):Fq T S n:=fun j hj hk=>by
 have hends:bZ (au S j).k=false:=by
  unfold aE aH at hk;simp only[Bool.or_eq_true]at hk
  rcases hk with (h | h) | (h | h) <;> exact fY h (by decide)
 have P:=nV p hall j (by omega) hends;refine⟨(wi P).1,fun hf=>?_⟩;have hnp:((au S j).k.toList == [36,112])=false:=by rw[gW hf];decide
 show 1<(bV T (au S j).h).length
 rw[ru P hnp];exact(sN P).2 hf
theorem up{key x:ByteArray}{n:Nat}{B:List ByteArray}(h:kp T S key x n B=0)(he:bZ x=false)(hq:(x.toList == [36,61])=false)(hB:aI B ⟨#[36,61]⟩=false):(if((key.toList == [36,99])||(key.toList == [36,118]))=true then iV T S x n (key.toList == [36,99]) B else il T S key x n B)=0:=by
 unfold kp at h
 have hd:(x.toList == [36,46])=false:=by
  unfold bZ at he;simp only[Bool.or_eq_false_iff]at he;exact he.1.1
 rw[hd,hq,hB,if_neg (by simp),Bool.false_and,if_neg (by simp)]at h
 split at h
 ·cases h
 ·exact h
theorem Ik{j:Nat}(P:sR T S j)(hk:(aE (au S j).k||aH (au S j).k)=true):dM T S (tS T (au S j).h) j=true:=by
 obtain⟨h1,h2⟩:=rt P;obtain⟨hr,he⟩:=P.w _ (Nat.le_refl _) h2;rw[wM]at hr;have hs:=up hr he h1 rfl
 have hkk:(((au S j).k.toList == [36,99])||((au S j).k.toList == [36,118]))=false/\((au S j).k.toList == [36,100])=false:=by
  unfold aE aH at hk;simp only[Bool.or_eq_true]at hk
  rcases hk with (h | h) | (h | h) <;> (rw[gW h,gW h,gW h];decide)
 rw[hkk.1,if_neg (by simp)]at hs;unfold il at hs;rw[hkk.2,if_neg (by simp),if_pos (by rfl)]at hs
 cases hc:dM T S (tS T (au S j).h) j
 ·rw[hc,if_pos rfl]at hs;cases hs
 ·rfl
theorem Ll{j:Nat}(P:sR T S j)(hk:((au S j).k.toList == [36,102])=true):jG T S (tS T ((au S j).h+1)) j=true/\(bV T (au S j).h).getD 1 ⟨#[]⟩=tS T ((au S j).h+1):=by
 have hl:=(sN P).2 hk;have hz:=P.zt;have hz0:=P.pos;rw[nB T _ _ P.le (by omega)]at hl;have hnp:((au S j).k.toList == [36,112])=false:=by rw[gW hk];decide
 have hg:=pK T (au S j).h ((au S j).z-1) 1 (by omega) (by omega);refine⟨?_,by rw[ru P hnp];exact hg⟩;obtain⟨hr,he⟩:=P.w ((au S j).h+1) (by omega) (by omega)
 have hq:((tS T ((au S j).h+1)).toList == [36,61])=false:=by
  cases e:((tS T ((au S j).h+1)).toList == [36,61])
  ·rfl
  ·have:=(sJ hr e).1
   rw[hnp]at this;cases this
 have hb:eE T (au S j).h ((au S j).h+1)=[tS T (au S j).h]:=by
  have:=xZ T (au S j).h (au S j).h (Nat.le_refl _) (by omega);rw[wM]at this;exact this
 have hB:aI (eE T (au S j).h ((au S j).h+1)) ⟨#[36,61]⟩=false:=by
  rw[hb,qR];have e:(⟨#[36,61]⟩:ByteArray).toList=[36,61]:=by decide +kernel
  rw[e];exact(rt P).1
 have hs:=up hr he hq hB;rw[gW hk,gW hk,if_neg (by decide)]at hs;unfold il at hs;rw[hb,gW hk,if_neg (by decide),if_neg (by simp),hk,if_pos rfl,if_neg (by simp)]at hs
 cases hv:jG T S (tS T ((au S j).h+1)) j
 ·rw[hv,if_pos rfl]at hs;cases hs
 ·rfl
theorem zd(p:z9 T T.length S f)(hall:∀q,q<T.length->aZ T S q=0){x:ByteArray}{i k:Nat}(hi:i<=S.length)(hk:k<=S.length)(h1:dM T S x i=true)(h2:jG T S x k=true):False:=by
 unfold dM im at h1;unfold jG im at h2;obtain⟨j,hj,e1⟩:=List.any_eq_true.1 h1;obtain⟨m,hm,e2⟩:=List.any_eq_true.1 h2;have hj:=List.mem_range.1 hj;have hm:=List.mem_range.1 hm;unfold nC at e1 e2;rw[l5.1,Bool.and_eq_true,Bool.and_eq_true]at e1;rw[l5.2,Bool.and_eq_true,Bool.and_eq_true]at e2;obtain⟨c1,c2,-⟩:=e1;obtain⟨v1,v2,-⟩:=e2
 have word:∀(j:Nat),j<S.length->(((au S j).k.toList == [36,99])=true∨((au S j).k.toList == [36,118])=true)->aI (bV T (au S j).h) x=true->∃B,iV T S x j ((au S j).k.toList == [36,99]) B=0:=fun j hj hkey hb=>by
  have hends:bZ (au S j).k=false:=by rcases hkey with h | h <;> exact fY h (by decide)
  have P:=nV p hall j hj hends;have hnp:((au S j).k.toList == [36,112])=false:=by rcases hkey with h | h <;> (rw[gW h];decide)
  rw[ru P hnp]at hb;have hz:=P.zt;have hz0:=P.pos;obtain⟨q,q1,q2,e⟩:=wL P.le (by omega) hb;obtain⟨hr,he⟩:=P.w q q1 q2
  have noeq:∀q,(au S j).h<=q->q<(au S j).z-1->((tS T q).toList == [36,61])=false:=fun q h1 h2=>by
   cases e:((tS T q).toList == [36,61])
   ·rfl
   ·have:=(sJ (P.w q h1 h2).1 e).1
    rw[hnp]at this;cases this
  have hB:aI (eE T (au S j).h q) ⟨#[36,61]⟩=false:=by
   cases e3:aI (eE T (au S j).h q) ⟨#[36,61]⟩
   ·rfl
   ·obtain⟨q',a1,a2,a3⟩:=wL q1 (by omega) e3
    have:=noeq q' a1 (by omega);rw[a3]at this;exact absurd this (by decide +kernel)
  have hs:=up hr he (noeq q q1 q2) hB;rw[if_pos (by rcases hkey with h | h <;> rw[h] <;> simp),e]at hs;exact⟨_,hs⟩
 obtain⟨B1,n1⟩:=word j (by omega) (Or.inl c1) c2;obtain⟨B2,n2⟩:=word m (by omega) (Or.inr v1) v2;have vno:((au S m).k.toList == [36,99])=false:=by rw[gW v1];decide
 rw[c1]at n1;rw[vno]at n2;unfold iV at n1 n2
 rcases Nat.lt_trichotomy j m with hlt | heq | hgt
 ·have hc:dM T S x m=true:=by
   unfold dM im;exact lD j hlt (by unfold nC;rw[l5.1,c1,c2];simp)
  rw[hc]at n2
  split at n2
  ·cases n2
  ·simp at n2
 ·rw[heq,vno]at c1;cases c1
 ·have hd:im T S ⟨#[36,118]⟩ x j false=true:=by
   unfold im;exact lD m hgt (by unfold nC;rw[l5.2,v1,v2];simp)
  have ht:iC T S x j=true:=by unfold iC;rw[hd];simp
  rw[ht]at n1
  split at n1
  ·cases n1
  ·simp at n1
theorem LI(p:z9 T T.length S f)(hall:∀q,q<T.length->aZ T S q=0)(n:Nat)(hn:n<=S.length):Kg T S n:=fun r hr hk=>by
 have P:=nV p hall r (by omega) (by unfold aE at hk;rcases Bool.or_eq_true _ _ ▸ hk with h | h <;> exact fY h (by decide));have hc:=Ik P (by rw[hk];rfl);have e0:(cm T S r).getD 0 ⟨#[]⟩=tS T (au S r).h:=(wi P).2;rw[e0]
 cases e:aI (fD T S (cC T S r) (cC T S r).length) (tS T (au S r).h)
 ·rfl
 ·exfalso
  unfold aI at e;obtain⟨y,hy,e2⟩:=List.any_eq_true.1 e;unfold fD at hy;obtain⟨i,hi,rfl⟩:=List.mem_map.1 hy;unfold vj at hi;obtain⟨i1,i2⟩:=List.mem_filter.1 hi;have i1:=List.mem_range.1 i1;have eg:(cC T S r).getD i 0=(cC T S r)[i]:=by rw[List.getD_eq_getElem?_getD,List.getElem?_eq_getElem i1];rfl
  unfold CW at i2;rw[eg]at i2 e2;have hj:=pV T S r (cC T S r)[i] (List.getElem_mem i1);generalize (cC T S r)[i]=j at *;have Pj:=nV p hall j (by omega) (fY i2 (by decide));obtain⟨w1,w2⟩:=Ll Pj i2;have e3:cm T S j=bV T (au S j).h:=rfl;rw[e3,w2]at e2
  have e4:tS T ((au S j).h+1)=tS T (au S r).h:=by
   have:(tS T ((au S j).h+1)).toList=(tS T (au S r).h).toList:=by simpa using e2
   apply ByteArray.ext
   apply Array.toList_inj.1
   rw[<-ByteArray.toList_eq,<-ByteArray.toList_eq,this]
  rw[e4]at w1;exact zd p hall (by omega) (by omega) hc w1
end
theorem JR(T:List Tk)(hT:T.length<=10000)(hall:∀q,q<T.length->aZ T (LS T) q=0)(n:Nat)(hn:n<=(LS T).length):mx T (LS T) n:=by
 have p:=fL T;have hl:(LS T).length<=T.length:=sI T T.length;obtain⟨ok,fo⟩:=Bf T (by omega) hall;have h:mx T (LS T) (LS T).length:=⟨ok,by omega,hT,fun j hj hk=>rx (nV p hall j hj hk),fo⟩;exact h.mono hn
def Cm(S:List Sm)(a r:Nat):Prop:=r<a/\(aE (au S r).k||aH (au S r).k)=true
structure Kf(T:List Tk)(S:List Sm)(a i:Nat)(s:cQ):Prop where
 nd:s.need<=10000
 ways:s.ref=-1∨(s.ref=-2/\s.back<i)∨∃r,Cm S a r/\s.ref=(r:Nat)/\s.need=gx T S (r:Nat)
def lA(T:List Tk)(S:List Sm)(a:Nat)(P:List cQ):Prop:=∀i,i<P.length->Kf T S a i (bG P i)
section
variable {T:List Tk} {S:List Sm} {a:Nat}
theorem lA.snoc{P:List cQ}{s:cQ}(h:lA T S a P)(hs:Kf T S a P.length s):lA T S a (P++[s]):=fun i hi=>by
 rw[List.length_append,List.length_cons,List.length_nil]at hi
 by_cases e:i<P.length
 ·have e2:bG (P++[s]) i=bG P i:=by unfold bG;rw[List.getD_eq_getElem?_getD,List.getD_eq_getElem?_getD,List.getElem?_append_left e]
  rw[e2];exact h i e
 ·have e1:i=P.length:=by omega
  have e2:bG (P++[s]) i=s:=by unfold bG;rw[e1,List.getD_eq_getElem?_getD,List.getElem?_append_right (Nat.le_refl _),Nat.sub_self];rfl
  rw[e2,e1];exact hs
theorem lA.nil:lA T S a []:=fun i hi=>by simp at hi
theorem ze(ha:a<=10000){r:Nat}(hr:r<a):gx T S (r:Nat)<=10000:=by
 unfold gx
 split
 ·omega
 ·split
  ·have:=kU T S (r:Int).toNat
   rw[Int.toNat_natCast]at this ⊢;omega
  ·omega
theorem wn{x:ByteArray}{k:Nat}(h:dX T S a x=(k:Int)):Cm S a k:=by
 have hw:=nX T S a x;rw[h]at hw
 rcases hw with e | ⟨q,hq,e⟩
 ·omega
 ·have e1:k=q:=by omega
  subst e1;refine⟨hq,?_⟩;unfold dX at h
  split at h
  ·omega
  ·split at h
   ·unfold bn at h
    cases hf:(List.range a).find? (oE T S x) with
    | none=>rw[hf]at h;simp at h
    | some j =>
     rw[hf]at h;have ej:j=k:=by have h:(j:Int)=(k:Int):=h;omega
     have hp:=List.find?_some hf;rw[ej]at hp;unfold oE at hp;rw[Bool.and_eq_true]at hp
     cases ha:(aE (au S k).k||aH (au S k).k)
     ·exfalso
      have:cd T (au S k)=⟨#[]⟩:=by unfold cd;rw[ha,if_neg (by simp)]
      rw[this]at hp;exact absurd hp.1 (by decide +kernel)
     ·rfl
   ·omega
theorem Gb(ha:a<=10000)(zt:Nat)(n:Nat):∀i P,lA T S a P->lA T S a (lE T S a zt n i P).st/\((lE T S a zt n i P).why=0->0<(lE T S a zt n i P).st.length)/\(lE T S a zt n i P).st.length<=P.length+n:=by
 induction n with
 | zero =>
  intro i P hP;rw[lE]
  split
  ·exact⟨lA.nil,fun h=>(by cases h),Nat.zero_le _⟩
  ·exact⟨hP,fun _=>(by simp only;omega),(by simp)⟩
 | succ n ih =>
  intro i P hP;rw[lE]
  split
  ·obtain⟨h1,h2,h3⟩:=ih (i+1) _ (hP.snoc (s:=⟨-1,0,0,(T.getD i ic).file,(T.getD i ic).line,(T.getD i ic).col⟩) ⟨by show 0<=10000;omega,Or.inl rfl⟩)
   exact⟨h1,h2,by simp at h3 ⊢;omega⟩
  ·split
   ·exact⟨lA.nil,fun h=>(by cases h),Nat.zero_le _⟩
   ·next h1 h2 =>
    obtain⟨k,hk⟩:∃k:Nat,dX T S a (tS T i)=k:=⟨(dX T S a (tS T i)).toNat,by omega⟩
    have hr:=wn hk;rw[hk];obtain⟨h1,h2,h3⟩:=ih (i+1) _ (hP.snoc (s:=⟨(k:Int),0,gx T S (k:Int),(T.getD i ic).file,(T.getD i ic).line,(T.getD i ic).col⟩) ⟨ze ha hr.1,Or.inr (Or.inr ⟨k,hr,rfl,rfl⟩)⟩);exact⟨h1,h2,by simp at h3 ⊢;omega⟩
theorem Hz(ha:a<=10000)(refs:List Nat)(hrefs:∀r∈refs,Cm S a r)(en:Lt)(L:List Lt):∀P tags num fr,lA T S a P->(∀t∈tags,t<P.length)->(fr=true->0<P.length) ->
  lA T S a (lM T S refs en L P tags num fr).st/\((lM T S refs en L P tags num fr).why=0->0<(lM T S refs en L P tags num fr).st.length)/\(lM T S refs en L P tags num fr).st.length<=P.length+L.length:=by
 induction L with
 | nil =>
  intro P tags num fr hP _ _;rw[lM]
  split
  ·exact⟨lA.nil,fun h=>(by cases h),Nat.zero_le _⟩
  ·split
   ·exact⟨lA.nil,fun h=>(by cases h),Nat.zero_le _⟩
   ·exact⟨hP,fun _=>(by simp only;omega),(by simp)⟩
 | cons l L ih =>
  intro P tags num fr hP hT hF;rw[lM]
  split
  ·obtain⟨h1,h2,h3⟩:=ih P tags (num++Aa l.c) false hP hT (fun h=>by cases h)
   exact⟨h1,h2,by simp at h3 ⊢;omega⟩
  ·split
   ·split
    ·exact⟨lA.nil,fun h=>(by cases h),Nat.zero_le _⟩
    ·next hz =>
     have hle:=vY (num++Aa l.c) (refs.length+tags.length);generalize gG (num++Aa l.c) (refs.length+tags.length)=m at *
     have hs:Kf T S a P.length (pB T S refs tags m l):=by
      unfold pB
      split
      ·next hm =>
       have hq:m-1<refs.length:=by omega
       have e:refs.getD (m-1) 0=refs[m-1]:=by rw[List.getD_eq_getElem?_getD,List.getElem?_eq_getElem hq];rfl
       have hr:=hrefs refs[m-1] (List.getElem_mem hq);rw[e];exact⟨ze ha hr.1,Or.inr (Or.inr ⟨_,hr,rfl,rfl⟩)⟩
      ·next hm =>
       have hq:m-refs.length-1<tags.length:=by omega
       have e:tags.getD (m-refs.length-1) 0=tags[m-refs.length-1]:=by rw[List.getD_eq_getElem?_getD,List.getElem?_eq_getElem hq];rfl
       rw[e];exact⟨by show 0<=10000;omega,Or.inr (Or.inl ⟨rfl,hT _ (List.getElem_mem hq)⟩)⟩
     obtain⟨h1,h2,h3⟩:=ih _ tags ⟨#[]⟩ true (hP.snoc hs) (fun t ht=>by rw[List.length_append];have:=hT t ht;omega) (fun _=>by simp);exact⟨h1,h2,by simp at h3 ⊢;omega⟩
   ·split
    ·next hz =>
     have hp:=hF hz.2
     obtain⟨h1,h2,h3⟩:=ih P (tags++[P.length-1]) num false hP (fun t ht=>by
      rcases List.mem_append.1 ht with h | h
      ·exact hT t h
      ·rw[List.mem_singleton.1 h];omega) (fun h=>by cases h)
     exact⟨h1,h2,by simp at h3 ⊢;omega⟩
    ·split
     ·obtain⟨h1,h2,h3⟩:=ih _ tags num false (hP.snoc (s:=⟨-1,0,0,l.file,l.line,l.col⟩) ⟨by show 0<=10000;omega,Or.inl rfl⟩) (fun t ht=>by rw[List.length_append];have:=hT t ht;omega) (fun h=>by cases h)
      exact⟨h1,h2,by simp at h3 ⊢;omega⟩
     ·exact⟨lA.nil,fun h=>(by cases h),Nat.zero_le _⟩
theorem Jt(ha:a<=10000)(hO:ev T)(zt:Nat)(n:Nat):∀i refs,(∀r∈refs,Cm S a r)->lA T S a (ss T S a zt n i refs).st/\((ss T S a zt n i refs).why=0->0<(ss T S a zt n i refs).st.length)/\(ss T S a zt n i refs).st.length<=1024*T.length:=by
 induction n with
 | zero=>intro i refs _;rw[ss];exact⟨lA.nil,fun h=>(by cases h),Nat.zero_le _⟩
 | succ n ih =>
  intro i refs hr;rw[ss]
  split
  ·obtain⟨h1,h2,h3⟩:=Hz (T:=T) ha refs hr (AW (T.getD zt ic)) (dW T (i+1) zt) [] [] ⟨#[]⟩ false lA.nil (fun t ht=>by cases ht) (fun h=>by cases h)
   have:=uD T hO (i+1) zt;rw[List.length_nil,Nat.zero_add]at h3;exact⟨h1,h2,by unfold iY;omega⟩
  ·split
   ·exact⟨lA.nil,fun h=>(by cases h),Nat.zero_le _⟩
   ·split
    ·exact⟨lA.nil,fun h=>(by cases h),Nat.zero_le _⟩
    ·next h1 h2 h3 =>
     obtain⟨k,hk⟩:∃k:Nat,dX T S a (tS T i)=k:=⟨(dX T S a (tS T i)).toNat,by omega⟩
     refine ih (i+1) _ (fun r hr2=>?_)
     rcases List.mem_append.1 hr2 with h | h
     ·exact hr r h
     ·rw[List.mem_singleton.1 h,hk,Int.toNat_natCast];exact wn hk
theorem tx(ha:a<=10000)(hO:ev T)(hT:T.length<=10000)(e zt:Nat)(hz:zt<=T.length):lA T S a (fa T S a e zt).st/\((fa T S a e zt).why=0->0<(fa T S a e zt).st.length)/\(fa T S a e zt).st.length<=100000000:=by
 unfold fa
 split
 ·unfold iQ
  obtain⟨h1,h2,h3⟩:=Jt (T:=T) (S:=S) ha hO zt (zt-(e+2)) (e+2) (cC T S a) (fun r hr=>by
   obtain⟨k1,-,k3⟩:=vR T S a r hr;exact⟨k1,by rw[k3];simp⟩)
  exact⟨h1,h2,by omega⟩
 ·obtain⟨h1,h2,h3⟩:=Gb (T:=T) (S:=S) ha zt (zt-(e+1)) (e+1) [] lA.nil
  exact⟨h1,h2,by simp at h3;omega⟩
theorem Dt(ha:a<=10000)(hO:ev T)(hT:T.length<=10000)(e zt:Nat)(hz:zt<=T.length):Fw T S a (fa T S a e zt):=by
 obtain⟨k1,k2,k3⟩:=tx (T:=T) (S:=S) ha hO hT e zt hz;refine⟨k3,fun i=>?_,fun h=>⟨k2 h,fun i hi hne=>⟨?_⟩⟩⟩
 ·by_cases hi:i<(fa T S a e zt).st.length
  ·have:=(k1 i hi).nd;omega
  ·have:bG (fa T S a e zt).st i=Lz:=by unfold bG;rw[List.getD_eq_getElem?_getD,List.getElem?_eq_none (by omega)];rfl
   rw[this];show 0<=100000;omega
 ·rcases(k1 i hi).ways with h | ⟨h,hb⟩ | ⟨r,hr,h1,h2⟩
  ·exact absurd h hne
  ·exact Or.inl ⟨h,hb⟩
  ·refine Or.inr ⟨r,hr.1,h1,hr.2,fun hk=>?_⟩
   rw[h2];unfold gx;rw[if_neg (by omega),Int.toNat_natCast,if_pos hk]
end
def uW(t:Tk):Prop:=t.s.size<=1024/\0<=t.col/\t.col<=10000
theorem wY:ev []:=fun t ht=>by cases ht
theorem kO{L M:List Tk}(h:ev L)(k:ev M):ev (L++M):=fun t ht=>by
 rcases List.mem_append.1 ht with e | e
 ·exact h t e
 ·exact k t e
theorem j9{t:Tk}(h:uW t):ev [t]:=fun u hu=>by rw[List.mem_singleton.1 hu];exact h
theorem pT{t:Tk}(r:Int)(h:uW t):uW (oK t r):=⟨by show(0:Nat)<=1024;omega,h.2⟩
theorem xI(nm d s:ByteArray)(r:Int)(k:Nat)(hs:s.size<=1024)(hk:k<=1024):uW (kL nm d s r k):=by
 have:=wS d k;exact⟨hs,by show 0<=aW d k;omega,by show aW d k<=10000;omega⟩
theorem zZ(nm d:ByteArray)(a z:Nat)(L:List Tk)(hL:ev L)(haz:a<=z)(hz:z<=1024):ev (ia nm d a z L):=by
 unfold ia
 split
 ·exact hL
 ·exact kO hL (j9 (xI nm d _ 0 a (by rw[ByteArray.size_extract];omega) (by omega)))
theorem zX(nm d:ByteArray)(i:Nat)(hi:i<=1024):ev (h9 nm d i):=by
 induction i with
 | zero=>exact wY
 | succ i ih =>
  rw[h9]
  split
  ·exact zZ nm d _ i _ (ih (by omega)) (mt d i) (by omega)
  ·exact ih (by omega)
theorem Fn(nm d:ByteArray)(hd:d.size<=1024):ev (fS nm d):=by
 unfold fS
 split
 ·next i h =>
  have hi:i<d.size:=List.mem_range.1 (List.mem_of_find?_eq_some h);exact kO (zX nm d i (by omega)) (j9 (xI nm d _ 1 i (by show(0:Nat)<=1024;omega) (by omega)))
 ·exact kO (zZ nm d _ _ _ (zX nm d _ hd) (mt d _) hd) (j9 (xI nm d _ 0 _ (by show(0:Nat)<=1024;omega) hd))
theorem tN{t:Tk}{L:List Tk}(h:uW t)(k:ev L):ev (t :: L):=fun u hu=>by
 rcases List.mem_cons.1 hu with e | e
 ·rw[e];exact h
 ·exact k u e
theorem FN(b:Bool)(L:List Tk)(h:ev L):ev (bJ b L):=by
 induction L generalizing b with
 | nil=>cases b <;> exact wY
 | cons t L ih =>
  have ht:uW t:=h t (List.mem_cons_self ..);have hL:ev L:=fun u hu=>h u (List.mem_cons_of_mem _ hu)
  have hz:∀r,uW ⟨⟨#[]⟩,r,t.file,t.line,t.col⟩:=fun r=>⟨by show(0:Nat)<=1024;omega,ht.2⟩
  cases b
  ·rw[bJ]
   split
   ·exact ih true hL
   ·exact tN ht (ih false hL)
  ·rw[bJ]
   split
   ·exact tN ht (ih true hL)
   ·split
    ·exact ih false hL
    ·split
     ·exact tN (hz 3) (ih true hL)
     ·split
      ·exact j9 (hz 2)
      ·exact ih true hL
theorem EA(rec:Nat->List Bool->List Tk->List Tk×List Bool)(hrec:∀k sn out,ev out->ev (rec k sn out).1)(fs:Fs)(n:Nat):∀L,L.length<=n->ev L->∀sn out,ev out->ev (b9 rec fs L sn out).1:=by
 induction n with
 | zero =>
  intro L hl _ sn out ho
  cases L with
  | nil=>rw[b9];exact ho
  | cons _ _=>simp at hl
 | succ n ih =>
  intro L hl hL sn out ho
  cases L with
  | nil=>rw[b9];exact ho
  | cons t r =>
   have ht:uW t:=hL t (List.mem_cons_self ..);have hr:ev r:=fun u hu=>hL u (List.mem_cons_of_mem _ hu)
   have hl1:r.length<=n:=by simpa using hl
   rw[b9.eq_def];simp only
   split
   ·split
    ·exact ho
    ·exact kO ho (j9 (pT 7 ht))
   ·split
    ·exact ih r hl1 hr sn _ (kO ho (j9 ht))
    ·split
     ·exact kO ho (j9 (pT 4 ht))
     ·cases r with
      | nil=>exact ho
      | cons a r =>
       have ha:uW a:=hr a (List.mem_cons_self ..)
       cases r with
       | nil=>exact kO ho (j9 (pT _ ha))
       | cons b r =>
        have hb:uW b:=hr b (List.mem_cons_of_mem _ (List.mem_cons_self ..));have hr2:ev r:=fun u hu=>hr u (List.mem_cons_of_mem _ (List.mem_cons_of_mem _ hu))
        have hl2:r.length<=n:=by simp at hl1;omega
        simp only
        split
        ·exact kO ho (j9 (pT _ ha))
        ·split
         ·exact kO ho (j9 (pT _ hb))
         ·split
          ·exact ih r hl2 hr2 sn out ho
          ·split
           ·exact hrec _ sn out ho
           ·exact ih r hl2 hr2 _ _ (hrec _ sn out ho)
theorem EE(fs:Fs)(hfd:∀k,(aj fs k).size<=1024)(n:Nat):∀k sn out,ev out->ev (dy fs n k sn out).1:=by
 induction n with
 | zero=>intro k sn out ho;exact ho
 | succ n ih =>
  intro k sn out ho;rw[dy];exact EA _ ih fs _ _ (Nat.le_refl _) (FN _ _ (Fn _ _ (hfd k))) _ _ ho
theorem Gj(fs:Fs)(k:Nat)(hfd:∀k,(aj fs k).size<=1024):ev (da fs k).1:=by
 have h:ev (nr fs k):=EE fs hfd _ _ _ _ wY;unfold da
 split
 ·exact fun t ht=>h t (List.dropLast_subset _ ht)
 ·exact h
def wV(T:List Tk)(S:List Sm)(j:Nat):Nat:=(au S j).h+(bV T (au S j).h).length
theorem LA(p:ByteArray->Bool)(L:List ByteArray)(h:∃x∈L,p x=false):(L.takeWhile p).length<L.length/\p (L.getD (L.takeWhile p).length ⟨#[]⟩)=false/\∀q,q<(L.takeWhile p).length->p (L.getD q ⟨#[]⟩)=true:=by
 induction L with
 | nil=>obtain⟨x,hx,-⟩:=h;cases hx
 | cons a L ih =>
  cases ha:p a
  ·rw[List.takeWhile_cons,if_neg (by rw[ha];simp)]
   exact⟨by simp,ha,fun q hq=>by simp at hq⟩
  ·rw[List.takeWhile_cons,if_pos ha]
   obtain⟨h1,h2,h3⟩:=ih (by
    obtain⟨x,hx,hp⟩:=h
    rcases List.mem_cons.1 hx with e | e
    ·rw[e,ha]at hp;cases hp
    ·exact⟨x,e,hp⟩)
   refine⟨by simp;omega,h2,fun q hq=>?_⟩
   cases q with
   | zero=>exact ha
   | succ q=>exact h3 q (by simpa using hq)
theorem KT{T:List Tk}{S:List Sm}{j:Nat}(P:sR T S j)(hk:((au S j).k.toList == [36,112])=true) :
  (au S j).h<=wV T S j/\((tS T (wV T S j)).toList == [36,61])=true/\(∀q,(au S j).h<=q->q<wV T S j->((tS T q).toList == [36,61])=false)/\wV T S j<(au S j).z-1:=by
 have hz:=P.zt;have hz0:=P.pos;have hle:=P.le;have hc:=P.cl;have hl:=nB T (au S j).h ((au S j).z-1) hle (by omega)
 have hB:aI (eE T (au S j).h ((au S j).z-1)) ⟨#[36,61]⟩=true:=by
  unfold fV at hc
  split at hc
  ·cases hc
  ·split at hc
   ·cases hc
   ·cases e:aI (eE T (au S j).h ((au S j).z-1)) ⟨#[36,61]⟩
    ·rw[hk,e,if_pos (by decide)]at hc;cases hc
    ·rfl
 obtain⟨y,hy,ey⟩:=List.any_eq_true.1 hB
 have hex:∃x∈eE T (au S j).h ((au S j).z-1),jE x=false:=by
  refine⟨y,hy,?_⟩;unfold jE;have e:y.toList=(⟨#[36,61]⟩:ByteArray).toList:=by simpa using ey
  rw[e];decide +kernel
 obtain⟨h1,h2,h3⟩:=LA jE _ hex;rw[<-uG P]at h1 h2 h3;rw[hl]at h1;unfold wV;refine⟨by omega,?_,fun q q1 q2=>?_,by omega⟩
 ·rw[pK T _ _ _ (by omega) (by omega)]at h2
  unfold jE at h2;simpa using h2
 ·have:=h3 (q-(au S j).h) (by omega)
  rw[pK T _ _ _ (by omega) (by omega),show(au S j).h+(q-(au S j).h)=q by omega]at this;unfold jE at this;simpa using this
def LH(T:List Tk)(S:List Sm)(a:Nat):jD:=fa T S a (wV T S a) ((au S a).z-1)
def LP(T:List Tk)(S:List Sm)(a:Nat):jL:=qw T S a (LH T S a) (T.getD ((au S a).z-1) ic)
theorem xU.keptS{w w':World}{ao:Option Addr}{cap:Nat}{L:List Sm}{S:List Nat}(h:xU w ao cap L)(k:ab S w w')(hS:∀g,ao=some ⟨g,0,none⟩->g∉S):xU w' ao cap L:=by
 refine⟨h.1,fun j t ht=>?_⟩;obtain⟨g,e,hg,c0,c1,c2,c3⟩:=h.2 j t ht;have q:∀o,w'.cell? ⟨g,o,none⟩=w.cell? ⟨g,o,none⟩:=fun o=>World.cell?_of_block (k.block g hg (hS g e))
 exact⟨g,e,Nat.lt_of_lt_of_le hg k.size,by rw[q];exact c0,by rw[q];exact c1,by rw[q];exact c2,by rw[q];exact c3⟩
theorem eW.off{w wx:World}{b v:Nat}{T:List Tk}{aoT:Option Addr}{cT:Nat}{S:List Sm}{aoS:Option Addr}{cS:Nat}{ao:Option Addr}{n c:Nat}{x1 x2 x3 x4:Value}(h:eW w b T aoT cT S aoS cS)(hv:w.heap[v]?=some (.cells #[.slice ao n c,x1,x2,x3,x4] 85 (0,0)))(k:ab [v] w wx):eW wx b T aoT cT S aoS cS:=by
 have v0:w.cell? ⟨v,0,none⟩=some (.slice ao n c):=by rw[aa hv];rfl
 refine⟨k.get h.d (fun hb=>?_),?_,?_⟩
 ·simp at hb
  subst hb;have:=h.d.symm.trans hv;simp at this
 ·cases hT:T with
  | nil=>rw[hT]at h;exact⟨h.t.1,fun j t ht=>by simp at ht⟩
  | cons t L =>
   rw[hT]at h;refine h.t.keptS k (fun g e hq=>?_);simp at hq;subst hq;obtain⟨g,e',-,c0,-⟩:=h.t.2 0 t rfl;rw[e']at e;cases e;rw[Nat.zero_mul]at c0;rw[v0]at c0;cases c0
 ·cases hS:S with
  | nil=>rw[hS]at h;exact⟨h.s.1,fun j t ht=>by simp at ht⟩
  | cons t L =>
   rw[hS]at h;refine h.s.keptS k (fun g e hq=>?_);simp at hq;subst hq;obtain⟨g,e',-,c0,-⟩:=h.s.2 0 t rfl;rw[e']at e;cases e;rw[Nat.zero_mul]at c0;rw[v0]at c0;cases c0
theorem AS(v b:Nat)(T:List Tk)(aoT:Option Addr)(cT:Nat)(aoS:Option Addr)(cS:Nat)(ao:Option Addr)(n c:Nat)(x1 y3 y4:Value)(w:World)
  (hv:w.heap[v]?=some (.cells #[.slice ao n c,x1,.pointer (some ⟨b,0,none⟩),y3,y4] 85 (0,0)))
  (hD:eW w b T aoT cT (LS T) aoS cS) (hT:T.length<=10000) (hO:ev T) (hall:∀q,q<T.length->aZ T (LS T) q=0) :
  Calls Tryz.prog 57 #[.pointer (some ⟨v,0,none⟩)] w fun e w'=>Ft T (LS T) v b (.slice ao n c) x1 (LH T (LS T)) (LP T (LS T)) w e w':=by
 have p:=fL T;have hl:(LS T).length<=T.length:=sI T T.length;have hD':∀wx,ab [v] w wx->eW wx b T aoT cT (LS T) aoS cS:=fun wx k=>hD.off hv k
 have ends:∀a,vf (LS T) a=true->bZ (au (LS T) a).k=false:=fun a h=>fY h (by decide)
 refine AQ v b T aoT cT (LS T) aoS cS _ x1 y3 y4 _ _ w hv hD' (by omega) (JR T hT hall _ (Nat.le_refl _)).ok.a ?_ ?_ ?_
 ·intro a ha hp wx kx
  have P:=nV p hall a ha (ends a hp);obtain⟨e1,e2,e3,e4⟩:=KT P hp;have:=P.pos;have:=P.zt;exact At b a (wV T (LS T) a) ((au (LS T) a).z-1) T aoT cT _ aoS cS wx (hD' wx kx) (JR T hT hall a (by omega)) ha (rx P) hO e1 e2 e3 (by omega) e4 (by omega) P.dot
 ·intro a ha hp hp' wx kx hs
  have P:=nV p hall a ha (ends a hp);have:=P.pos;have:=P.zt;exact xM b a ((au (LS T) a).z-1) T aoT cT _ aoS cS (LH T (LS T) a) hp' wx (hD' wx kx) (JR T hT hall a (by omega)) (Lk p hall a (by omega)) (LI p hall a (by omega)) ha (rx P) ((JR T hT hall _ (Nat.le_refl _)).ok.a a ha) (by omega) (by omega) hs (Dt (by omega) hO hT _ _ (by omega))
 ·intro a ha hp
  have P:=nV p hall a ha (ends a hp);have:=P.zt;obtain⟨k1,-,k3⟩:=tx (T:=T) (S:=LS T) (a:=a) (by omega) hO hT (wV T (LS T) a) ((au (LS T) a).z-1) (by omega);refine⟨k3,fun i hi=>?_⟩
  show(bG (fa T (LS T) a (wV T (LS T) a) ((au (LS T) a).z-1)).st i).ref<=(a:Int)
  rcases(k1 i hi).ways with h | ⟨h,-⟩ | ⟨r,hr,h1,-⟩
  ·rw[h];omega
  ·rw[h];omega
  ·rw[h1];have:=hr.1;omega
end Go.Proofs.YtpddjjabfbfifaaGreat

import Derived.Test.YtnbhnocdhbcbcaaGreatK02
import Derived.Test.YtnbhnocdhbcbcaaGreatK22
import Derived.Test.YtnbhnocdhbcbcaaGreatK25
namespace Go.Proofs.YtnbhnocdhbcbcaaGreat
open Go.RowKit Tryz
open Value IntKind Ending
set_option maxHeartbeats 0
variable{i z4:Xs}{w x u t y5 y6:Nat}{z1:Xt}{y:List Tk}{z6:Tk}{o:List Sm}{n k:World}{p y0:Xu}{z7:Xv}{I M N z5 y7 y9:Value}{d:Fs}{D c:Hd}{z2:Bool}(z0:Nat)(H:Fs)(g L:Xs)(v l:Nat)(b:List Tk)(z3:Nat->List Bool->List Tk->List Tk×List Bool)
theorem cw{l m:List UInt8}(h:(i.toList==l)=true):(i.toList==m)=(l==m):=by
 have:i.toList=l:=by simpa using h
 rw[this]
section
variable {T:List Tk} {S:List Sm} {f:Nat}
structure tE(T:List Tk)(S:List Sm)(j:Nat):Prop where
 le:(aq S j).h<=(aq S j).z-1
 zt:(aq S j).z<=T.length
 pos:0<(aq S j).z
 dot:((tS T ((aq S j).z-1)).toList == [36,46])=true
 cl:ja (aq S j).k (eF T (aq S j).h ((aq S j).z-1))=0
 w:∀q,(aq S j).h<=q->q<(aq S j).z-1->mH T S (aq S j).k (tS T q) j (eF T (aq S j).h q)=0/\cd (tS T q)=false
theorem ly(p:Cx T T.length S f)(c:∀q,q<T.length->aY T S q=0)(j:Nat)(h:j<S.length)(u:cd (aq S j).k=false):tE T S j:=by
 have t:=Cp p j h;obtain⟨P,o⟩:=p.s j h;have b:(aq S j).h<=(aq S j).z-1->(aq S j).a<(aq S j).h->tE T S j:=fun l A=>by
  have B:=P.lt;have r:=c ((aq S j).z-1) (by omega);rw[t ((aq S j).z-1) (by omega) (by omega),TH (by omega),TH (by omega)]at r;obtain⟨v,w⟩:=yq P.e r;refine⟨l,o,by omega,v,w,fun q F y=>?_⟩;have Q:=c q (by omega);rw[t q (by omega) (by omega),TH (by omega),TH (by omega)]at Q;exact⟨Q,P.n q (by omega) y⟩
 have d:=P.k;have G:=P.lt;unfold ee at d;by_cases g:(ii (tS T (aq S j).a) ⟨#[36]⟩||decide (T.length<=(aq S j).a+1))=true
 ·rw[TJ g]at d;have i:(aq S j).k=tS T (aq S j).a:=congrArg Prod.fst d;have x:(aq S j).h=(aq S j).a+1:=congrArg Prod.snd d;refine b ?_ (by omega);by_cases C:(aq S j).z-1=(aq S j).a
  ·have:=P.e;rw[C,<-i,u]at this;cases this
  ·omega
 ·rw[TH g]at d;have i:(aq S j).k=tS T ((aq S j).a+1):=congrArg Prod.fst d;have x:(aq S j).h=(aq S j).a+2:=congrArg Prod.snd d;have m:ii (tS T (aq S j).a) ⟨#[36]⟩=false:=by
   cases e:ii (tS T (aq S j).a) ⟨#[36]⟩
   ·rfl
   ·rw[e]at g;exact absurd rfl g
  refine b ?_ (by omega);have D:(aq S j).z-1≠(aq S j).a:=fun e=>by
   have:=(lz P.e).1;rw[e,m]at this;cases this
  have E:(aq S j).z-1≠(aq S j).a+1:=fun e=>by
   have:=P.e;rw[e,<-i,u]at this;cases this
  omega
theorem tI(T:List Tk)(h i q:Nat)(a:h+q<i)(b:i<=T.length):(eF T h i).getD q ⟨#[]⟩=tS T (h+q):=by
 unfold eF tS;rw[TG,Uo,Wd,TJ (by omega),VP,TG];rw[TF (by omega)];rfl
theorem nG(T:List Tk)(h i:Nat)(a:h<=i)(b:i<=T.length):(eF T h i).length=i-h:=by
 unfold eF;rw[Uh,UW,UK];omega
theorem uD(P:tE T S w):bu T (aq S w).h=(eF T (aq S w).h ((aq S w).z-1)).takeWhile jz:=by
 have i:=P.zt;have g:=P.pos;have c:=P.le;unfold bu;have e:T.drop (aq S w).h=(T.drop (aq S w).h).take ((aq S w).z-1-(aq S w).h)++(T.getD ((aq S w).z-1) gQ) :: T.drop (aq S w).z:=by
  conv=>lhs;rw[<-List.take_append_drop ((aq S w).z-1-(aq S w).h) (T.drop (aq S w).h)]
  rw[List.drop_drop,show(aq S w).h+((aq S w).z-1-(aq S w).h)=(aq S w).z-1 by omega,Il T ((aq S w).z-1) (by omega),show(aq S w).z-1+1=(aq S w).z by omega]
 rw[e,show ∀(L:List Tk) (t:Tk) (M:List Tk),L++t :: M=(L++[t])++M from fun L t M=>by simp,zI]
 ·rw[tJ _ _ (fun u f=>?_) P.dot]
  ·rfl
  ·obtain⟨q,d,a⟩:=UL f;rw[UW,UK]at d;have:=(P.w ((aq S w).h+q) (by omega) (by omega)).2;unfold cd at this;simp only[Bool.or_eq_false_iff]at this;have b:u.s=tS T ((aq S w).h+q):=by
    rw[<-a,List.getElem_take,Wn];unfold tS;rw[TG,TF (by omega)];rfl
   rw[b];exact this.1.1
 ·exact⟨T.getD ((aq S w).z-1) gQ,by simp,uE P.dot⟩
theorem vE(P:tE T S w):dU T (aq S w).h:=⟨(aq S w).z-1,P.le,by have:=P.zt;have:=P.pos;omega,uE P.dot⟩
theorem wR(h:mH T S i z4 w z1=0)(a:(z4.toList == [36,61])=true):(i.toList == [36,112])=true/\aK z1 ⟨#[36,61]⟩=false/\z1.length≠0:=by
 unfold mH at h;rw[cw a (m:=[36,46]),TH (by decide),a,Vk]at h;cases b:(i.toList == [36,112])
 ·rw[b,VJ,TH (by simp),TJ (by rw[qJ a];decide +kernel)]at h;cases h
 ·cases c:aK z1 ⟨#[36,61]⟩
  ·rw[b,c]at h;by_cases d:z1.length=0
   ·rw[TJ (by rfl),TJ d]at h;cases h
   ·exact⟨rfl,rfl,d⟩
  ·rw[b,c,TH (by decide),TJ (by rw[qJ a];decide +kernel)]at h;cases h
end
section
variable {T:List Tk} {S:List Sm} {f:Nat}
theorem AZ(T:List Tk)(h:Nat):eF T h h=[]:=by unfold eF;rw[UM];simp
theorem wV(P:tE T S w):0<(eF T (aq S w).h ((aq S w).z-1)).length/\(((aq S w).k.toList == [36,102])=true->1<(eF T (aq S w).h ((aq S w).z-1)).length):=by
 have a:=P.cl;unfold ja at a;split at a
 ·cases a
 ·next e =>
  split at a
  ·cases a
  ·next b =>
   refine⟨by omega,fun c=>?_⟩;have:¬(eF T (aq S w).h ((aq S w).z-1)).length<2:=fun d=>b (by rw[c];simp[d]);omega
theorem wE(c:w<=x)(a:x<=T.length)(f:aK (eF T w x) i=true):∃q,w<=q/\q<x/\tS T q=i:=by
 unfold aK at f;obtain⟨y,k,e⟩:=UG.1 f;obtain⟨q,d,g⟩:=UL k;rw[nG T w x c a]at d;refine⟨w+q,by omega,by omega,?_⟩;have b:=tI T w x q (by omega) a;rw[TG,TF (by rw[nG T w x c a];exact d)]at b;have j:(eF T w x)[q]=tS T (w+q):=b;rw[<-j,g];have:y.toList=i.toList:=by simpa using e
 apply Xz;apply Wt.1;rw[<-UB,<-UB,this]
theorem vD(P:tE T S w)(d:((aq S w).k.toList == [36,112])=false):bu T (aq S w).h=eF T (aq S w).h ((aq S w).z-1):=by
 rw[uD P];refine tZ _ ?_;cases e:aK (eF T (aq S w).h ((aq S w).z-1)) ⟨#[36,61]⟩
 ·rfl
 ·have i:=P.zt;have g:=P.pos;obtain⟨q,b,c,a⟩:=wE P.le (by omega) e;have f:=(P.w q b c).1;have:=(wR f (by rw[a];decide +kernel)).1;rw[d]at this;cases this
theorem vC(P:tE T S w):((tS T (aq S w).h).toList == [36,61])=false/\(aq S w).h<(aq S w).z-1:=by
 have b:=(wV P).1;have f:=P.zt;have d:=P.pos;rw[nG T _ _ P.le (by omega)]at b;have a:(aq S w).h<(aq S w).z-1:=by omega
 refine⟨?_,a⟩;cases e:((tS T (aq S w).h).toList == [36,61])
 ·rfl
 ·have c:=(P.w _ (TI _) a).1;have:=(wR c e).2.2;rw[AZ]at this;exact absurd rfl this
theorem Aw(P:tE T S w):0<(bu T (aq S w).h).length/\(bu T (aq S w).h).getD 0 ⟨#[]⟩=tS T (aq S w).h:=by
 obtain⟨b,f⟩:=vC P;have g:=P.zt;have a:=tI T (aq S w).h ((aq S w).z-1) 0 (by omega) (by omega);have c:=(wV P).1;rw[uD P];rw[Vs]at a;generalize eF T (aq S w).h ((aq S w).z-1)=B at *;cases B with
 | nil=>simp at c
 | cons x B =>
  have e:x=tS T (aq S w).h:=a;have d:jz x=true:=by unfold jz;rw[e,b];rfl
  rw[Vp d];exact⟨by simp,e⟩
theorem QG(p:Cx T T.length S f)(b:∀q,q<T.length->aY T S q=0)(n:Nat)(i:n<=S.length):LV T S n:=fun j g c=>by
 have a:cd (aq S j).k=false:=by
  unfold aA aH at c;simp only[Bool.or_eq_true]at c;rcases c with (h | h) | (h | h) <;> exact fN h (by decide)
 have P:=ly p b j (by omega) a;refine⟨(Aw P).1,fun e=>?_⟩;have d:((aq S j).k.toList == [36,112])=false:=by rw[cw e];decide
 show 1<(bu T (aq S j).h).length;rw[vD P d];exact(wV P).2 e
theorem ut(h:mH T S i z4 w z1=0)(a:cd z4=false)(d:(z4.toList == [36,61])=false)(b:aK z1 ⟨#[36,61]⟩=false):(if((i.toList == [36,99])||(i.toList == [36,118]))=true then j7 T S z4 w (i.toList == [36,99]) z1 else io T S i z4 w z1)=0:=by
 unfold mH at h;have c:(z4.toList == [36,46])=false:=by
  unfold cd at a;simp only[Bool.or_eq_false_iff]at a;exact a.1.1
 rw[c,d,b,TH (by simp),VJ,TH (by simp)]at h;split at h
 ·cases h
 ·exact h
theorem EA(P:tE T S w)(c:(aA (aq S w).k||aH (aq S w).k)=true):eK T S (tS T (aq S w).h) w=true:=by
 obtain⟨e,f⟩:=vC P;obtain⟨d,i⟩:=P.w _ (TI _) f;rw[AZ]at d;have b:=ut d i e rfl;have a:(((aq S w).k.toList == [36,99])||((aq S w).k.toList == [36,118]))=false/\((aq S w).k.toList == [36,100])=false:=by
  unfold aA aH at c;simp only[Bool.or_eq_true]at c;rcases c with (h | h) | (h | h) <;> (rw[cw h,cw h,cw h];decide)
 rw[a.1,TH (by simp)]at b;unfold io at b;rw[a.2,TH (by simp),TJ (by rfl)]at b;cases g:eK T S (tS T (aq S w).h) w
 ·rw[g,TJ rfl]at b;cases b
 ·rfl
theorem ML(P:tE T S w)(a:((aq S w).k.toList == [36,102])=true):iG T S (tS T ((aq S w).h+1)) w=true/\(bu T (aq S w).h).getD 1 ⟨#[]⟩=tS T ((aq S w).h+1):=by
 have l:=(wV P).2 a;have p:=P.zt;have o:=P.pos;rw[nG T _ _ P.le (by omega)]at l;have b:((aq S w).k.toList == [36,112])=false:=by rw[cw a];decide
 have j:=tI T (aq S w).h ((aq S w).z-1) 1 (by omega) (by omega);refine⟨?_,by rw[vD P b];exact j⟩;obtain⟨f,i⟩:=P.w ((aq S w).h+1) (by omega) (by omega);have m:((tS T ((aq S w).h+1)).toList == [36,61])=false:=by
  cases e:((tS T ((aq S w).h+1)).toList == [36,61])
  ·rfl
  ·have:=(wR f e).1;rw[b]at this;cases this
 have d:eF T (aq S w).h ((aq S w).h+1)=[tS T (aq S w).h]:=by
  have:=CJ T (aq S w).h (aq S w).h (TI _) (by omega);rw[AZ]at this;exact this
 have g:aK (eF T (aq S w).h ((aq S w).h+1)) ⟨#[36,61]⟩=false:=by
  rw[d,sO];have e:(⟨#[36,61]⟩:Xs).toList=[36,61]:=by decide +kernel
  rw[e];exact(vC P).1
 have c:=ut f i m g;rw[cw a,cw a,TH (by decide)]at c;unfold io at c;rw[d,cw a,TH (by decide),TH (by simp),a,TJ rfl,TH (by simp)]at c;cases n:iG T S (tS T ((aq S w).h+1)) w
 ·rw[n,TJ rfl]at c;cases c
 ·rfl
theorem mC(p:Cx T T.length S f)(n:∀q,q<T.length->aY T S q=0)(hi:w<=S.length)(hk:x<=S.length)(s:eK T S i w=true)(t:iG T S i x=true):False:=by
 unfold eK jG at s;unfold iG jG at t;obtain⟨j,u,v⟩:=UG.1 s;obtain⟨m,I,y⟩:=UG.1 t;have u:=TY.1 u;have I:=TY.1 I;unfold oQ at v y;rw[oY.1,Uc,Uc]at v;rw[oY.2,Uc,Uc]at y;obtain⟨l,G,-⟩:=v;obtain⟨F,L,-⟩:=y;have c:∀(j:Nat),j<S.length->(((aq S j).k.toList == [36,99])=true∨((aq S j).k.toList == [36,118])=true)->aK (bu T (aq S j).h) i=true->∃B,j7 T S i j ((aq S j).k.toList == [36,99]) B=0:=fun j u a H=>by
  have d:cd (aq S j).k=false:=by rcases a with h | h <;> exact fN h (by decide)
  have P:=ly p n j u d;have o:((aq S j).k.toList == [36,112])=false:=by rcases a with h | h <;> (rw[cw h];decide)
  rw[vD P o]at H;have hz:=P.zt;have Y:=P.pos;obtain⟨q,E,K,e⟩:=wE P.le (by omega) H;obtain⟨W,V⟩:=P.w q E K;have b:∀q,(aq S j).h<=q->q<(aq S j).z-1->((tS T q).toList == [36,61])=false:=fun q s t=>by
   cases e:((tS T q).toList == [36,61])
   ·rfl
   ·have:=(wR (P.w q s t).1 e).1;rw[o]at this;cases this
  have Q:aK (eF T (aq S j).h q) ⟨#[36,61]⟩=false:=by
   cases O:aK (eF T (aq S j).h q) ⟨#[36,61]⟩
   ·rfl
   ·obtain⟨Z,M,a2,N⟩:=wE E (by omega) O;have:=b Z M (by omega);rw[N]at this;exact absurd this (by decide +kernel)
  have J:=ut W V (b q E K) Q;rw[TJ (by rcases a with h | h <;> rw[h] <;> simp),e]at J;exact⟨_,J⟩
 obtain⟨B1,g⟩:=c j (by omega) (TZ l) G;obtain⟨B2,k⟩:=c m (by omega) (TU F) L;have r:((aq S m).k.toList == [36,99])=false:=by rw[cw F];decide
 rw[l]at g;rw[r]at k;unfold j7 at g k;rcases WL j m with D | A | C
 ·have R:eK T S i m=true:=by
   unfold eK jG;exact na j D (by unfold oQ;rw[oY.1,l,G];simp)
  rw[R]at k;split at k
  ·cases k
  ·simp at k
 ·rw[A,r]at l;cases l
 ·have U:jG T S ⟨#[36,118]⟩ i j false=true:=by
   unfold jG;exact na m C (by unfold oQ;rw[oY.2,F,L];simp)
  have X:jM T S i j=true:=by unfold jM;rw[U];simp
  rw[X]at g;split at g
  ·cases g
  ·simp at g
theorem SA(p:Cx T T.length S f)(a:∀q,q<T.length->aY T S q=0)(n:Nat)(A:n<=S.length):QU T S n:=fun r B g=>by
 have P:=ly p a r (by omega) (by unfold aA at g;rcases Uy _ _ ▸ g with h | h <;> exact fN h (by decide));have w:=EA P (by rw[g];rfl);have s:(bb T S r).getD 0 ⟨#[]⟩=tS T (aq S r).h:=(Aw P).2;rw[s];cases e:aK (bL T S (a8 T S r) (a8 T S r).length) (tS T (aq S r).h)
 ·rfl
 ·exfalso
  unfold aK at e;obtain⟨y,l,d⟩:=UG.1 e;unfold bL at l;obtain⟨i,k,rfl⟩:=UT.1 l;unfold s9 at k;obtain⟨b,c⟩:=Ux.1 k;have b:=TY.1 b;have v:(a8 T S r).getD i 0=(a8 T S r)[i]:=by rw[TG,TF b];rfl
  unfold so at c;rw[v]at c d;have z:=qG T S r (a8 T S r)[i] (Ue b);generalize (a8 T S r)[i]=j at *;have o:=ly p a j (by omega) (fN c (by decide));obtain⟨m,x⟩:=ML o c;have t:bb T S j=bu T (aq S j).h:=rfl;rw[t,x]at d;have u:tS T ((aq S j).h+1)=tS T (aq S r).h:=by
   have:(tS T ((aq S j).h+1)).toList=(tS T (aq S r).h).toList:=(by simpa using d);apply Xz;apply Wt.1;rw[<-UB,<-UB,this]
  rw[u]at m;exact mC p a (by omega) (by omega) w m
end
theorem OH(d:b.length<=10000)(a:∀q,q<b.length->aY b (aa b) q=0)(n:Nat)(g:n<=(aa b).length):pA b (aa b) n:=by
 have p:=dN b;have k:(aa b).length<=b.length:=om b b.length;obtain⟨i,c⟩:=BG b (by omega) a;have h:pA b (aa b) (aa b).length:=⟨i,by omega,d,fun j e f=>vE (ly p a j e f),c⟩;exact h.mono g
def Ht(S:List Sm)(a r:Nat):Prop:=r<a/\(aA (aq S r).k||aH (aq S r).k)=true
structure QT(T:List Tk)(S:List Sm)(a i:Nat)(s:di):Prop where
 nd:s.need<=10000
 X9:s.ref=-1∨(s.ref=-2/\s.back<i)∨∃r,Ht S a r/\s.ref=(r:Nat)/\s.need=gM T S (r:Nat)
def ob(T:List Tk)(S:List Sm)(a:Nat)(P:List di):Prop:=∀i,i<P.length->QT T S a i (bN P i)
section
variable {T:List Tk} {S:List Sm} {a:Nat}
theorem ob.snoc{P:List di}{s:di}(h:ob T S a P)(f:QT T S a P.length s):ob T S a (P++[s]):=fun i d=>by
 rw[TO,Uw,UE]at d;by_cases e:i<P.length
 ·have b:bN (P++[s]) i=bN P i:=by unfold bN;rw[TG,TG,Uf e]
  rw[b];exact h i e
 ·have c:i=P.length:=by omega
  have b:bN (P++[s]) i=s:=by unfold bN;rw[c,TG,Ua (TI _),UM];rfl
  rw[b,c];exact f
theorem ob.nil:ob T S a []:=fun i b=>by simp at b
theorem DG(b:a<=10000)(c:w<a):gM T S (w:Nat)<=10000:=by
 unfold gM;split
 ·omega
 ·split
  ·have:=ny T S (w:Int).toNat;rw[UF]at this ⊢;omega
  ·omega
theorem AA(h:dX T S a i=(w:Int)):Ht S a w:=by
 have d:=ri T S a i;rw[h]at d;rcases d with e | ⟨q,l,e⟩
 ·omega
 ·have f:w=q:=by omega
  subst f;refine⟨l,?_⟩;unfold dX at h;split at h
  ·omega
  ·split at h
   ·unfold bD at h;cases c:(List.range a).find? (mO T S i) with
    | none=>rw[c]at h;simp at h
    | some j =>
     rw[c]at h;have g:j=w:=by have h:(j:Int)=(w:Int):=h;omega
     have b:=Vq c;rw[g]at b;unfold mO at b;rw[Uc]at b;cases k:(aA (aq S w).k||aH (aq S w).k)
     ·exfalso
      have:bP T (aq S w)=⟨#[]⟩:=(by unfold bP;rw[k,TH (by simp)]);rw[this]at b;exact absurd b.1 (by decide +kernel)
     ·rfl
   ·omega
theorem MI(m:a<=10000)(e:Nat)(n:Nat):∀i P,ob T S a P->ob T S a (mq T S a e n i P).st/\((mq T S a e n i P).why=0->0<(mq T S a e n i P).st.length)/\(mq T S a e n i P).st.length<=P.length+n:=by
 induction n with
 | zero =>
  intro i P d;rw[mq];split
  ·exact⟨ob.nil,fun h=>(by cases h),Up _⟩
  ·exact⟨d,fun _=>(by simp only;omega),(by simp)⟩
 | succ n l =>
  intro i P d;rw[mq];split
  ·obtain⟨b,c,f⟩:=l (i+1) _ (d.snoc (s:=⟨-1,0,0,(T.getD i gQ).Yi,(T.getD i gQ).Yj,(T.getD i gQ).Yk⟩) ⟨by show 0<=10000;omega,TZ rfl⟩);exact⟨b,c,by simp at f ⊢;omega⟩
  ·split
   ·exact⟨ob.nil,fun h=>(by cases h),Up _⟩
   ·next b c =>
    obtain⟨k,g⟩:∃k:Nat,dX T S a (tS T i)=k:=⟨(dX T S a (tS T i)).toNat,by omega⟩
    have j:=AA g;rw[g];obtain⟨b,c,f⟩:=l (i+1) _ (d.snoc (s:=⟨(k:Int),0,gM T S (k:Int),(T.getD i gQ).Yi,(T.getD i gQ).Yj,(T.getD i gQ).Yk⟩) ⟨DG m j.1,TU (TU ⟨k,j,rfl,rfl⟩)⟩);exact⟨b,c,by simp at f ⊢;omega⟩
theorem Od(A:a<=10000)(d:Xv)(n:∀r∈d,Ht S a r)(v:Lt)(L:List Lt):∀P b f g,ob T S a P->(∀t∈b,t<P.length)->(g=true->0<P.length) ->
  ob T S a (mK T S d v L P b f g).st/\((mK T S d v L P b f g).why=0->0<(mK T S d v L P b f g).st.length)/\(mK T S d v L P b f g).st.length<=P.length+L.length:=by
 induction L with
 | nil =>
  intro P b f g o _ _;rw[mK];split
  ·exact⟨ob.nil,fun h=>(by cases h),Up _⟩
  ·split
   ·exact⟨ob.nil,fun h=>(by cases h),Up _⟩
   ·exact⟨o,fun _=>(by simp only;omega),(by simp)⟩
 | cons l L w =>
  intro P b f g o p z;rw[mK];split
  ·obtain⟨i,j,k⟩:=w P b (f++wG l.c) false o p (fun h=>by cases h);exact⟨i,j,by simp at k ⊢;omega⟩
  ·split
   ·split
    ·exact⟨ob.nil,fun h=>(by cases h),Up _⟩
    ·next y =>
     have B:=Ae (f++wG l.c) (d.length+b.length);generalize gx (f++wG l.c) (d.length+b.length)=m at *;have D:QT T S a P.length (pP T S d b m l):=by
      unfold pP;split
      ·next C =>
       have q:m-1<d.length:=(by omega);have e:d.getD (m-1) 0=d[m-1]:=(by rw[TG,TF q];rfl);have x:=n d[m-1] (Ue q);rw[e];exact⟨DG A x.1,TU (TU ⟨_,x,rfl,rfl⟩)⟩
      ·next C =>
       have q:m-d.length-1<b.length:=(by omega);have e:b.getD (m-d.length-1) 0=b[m-d.length-1]:=(by rw[TG,TF q];rfl);rw[e];exact⟨by show 0<=10000;omega,TU (TZ ⟨rfl,p _ (Ue q)⟩)⟩
     obtain⟨i,j,k⟩:=w _ b ⟨#[]⟩ true (o.snoc D) (fun t u=>by rw[TO];have:=p t u;omega) (fun _=>by simp);exact⟨i,j,by simp at k ⊢;omega⟩
   ·split
    ·next y =>
     have E:=z y.2
     obtain⟨i,j,k⟩:=w P (b++[P.length-1]) f false o (fun t u=>by
      rcases Ut.1 u with h | h
      ·exact p t h
      ·rw[T0.1 h];omega) (fun h=>by cases h)
     exact⟨i,j,by simp at k ⊢;omega⟩
    ·split
     ·obtain⟨i,j,k⟩:=w _ b f false (o.snoc (s:=⟨-1,0,0,l.Yi,l.Yj,l.Yk⟩) ⟨by show 0<=10000;omega,TZ rfl⟩) (fun t u=>by rw[TO];have:=p t u;omega) (fun h=>by cases h);exact⟨i,j,by simp at k ⊢;omega⟩
     ·exact⟨ob.nil,fun h=>(by cases h),Up _⟩
theorem PY(o:a<=10000)(m:fn T)(c:Nat)(n:Nat):∀i b,(∀r∈b,Ht S a r)->ob T S a (rV T S a c n i b).st/\((rV T S a c n i b).why=0->0<(rV T S a c n i b).st.length)/\(rV T S a c n i b).st.length<=1024*T.length:=by
 induction n with
 | zero=>intro i b _;rw[rV];exact⟨ob.nil,fun h=>(by cases h),Up _⟩
 | succ n q =>
  intro i b l;rw[rV];split
  ·obtain⟨e,f,g⟩:=Od (T:=T) o b l (EV (T.getD c gQ)) (eO T (i+1) c) [] [] ⟨#[]⟩ false ob.nil (fun t p=>by cases p) (fun h=>by cases h);have:=yI T m (i+1) c;rw[UE,VI]at g;exact⟨e,f,by unfold j8;omega⟩
  ·split
   ·exact⟨ob.nil,fun h=>(by cases h),Up _⟩
   ·split
    ·exact⟨ob.nil,fun h=>(by cases h),Up _⟩
    ·next e f g =>
     obtain⟨k,j⟩:∃k:Nat,dX T S a (tS T i)=k:=⟨(dX T S a (tS T i)).toNat,by omega⟩
     refine q (i+1) _ (fun r d=>?_);rcases Ut.1 d with h | h
     ·exact l r h
     ·rw[T0.1 h,j,UF];exact AA j
theorem sJ(g:a<=10000)(i:fn T)(m:T.length<=10000)(e b:Nat)(n:b<=T.length):ob T S a (fB T S a e b).st/\((fB T S a e b).why=0->0<(fB T S a e b).st.length)/\(fB T S a e b).st.length<=100000000:=by
 unfold fB;split
 ·unfold jS
  obtain⟨c,d,f⟩:=PY (T:=T) (S:=S) g i b (b-(e+2)) (e+2) (a8 T S a) (fun r j=>by
   obtain⟨k,-,l⟩:=zX T S a r j;exact⟨k,by rw[l];simp⟩)
  exact⟨c,d,by omega⟩
 ·obtain⟨c,d,f⟩:=MI (T:=T) (S:=S) g b (b-(e+1)) (e+1) [] ob.nil;exact⟨c,d,by simp at f;omega⟩
theorem JI(n:a<=10000)(l:fn T)(m:T.length<=10000)(e b:Nat)(q:b<=T.length):L7 T S a (fB T S a e b):=by
 obtain⟨g,s,t⟩:=sJ (T:=T) (S:=S) n l m e b q;refine⟨t,fun i=>?_,fun h=>⟨s h,fun i c d=>⟨?_⟩⟩⟩
 ·by_cases c:i<(fB T S a e b).st.length
  ·have:=(g i c).nd;omega
  ·have:bN (fB T S a e b).st i=Sz:=(by unfold bN;rw[TG,UA (by omega)];rfl);rw[this];show 0<=100000;omega
 ·rcases(g i c).X9 with h | ⟨h,o⟩ | ⟨r,f,j,k⟩
  ·exact absurd h d
  ·exact TZ ⟨h,o⟩
  ·refine TU ⟨r,f.1,j,f.2,fun p=>?_⟩;rw[k];unfold gM;rw[TH (by omega),UF,TJ p]
end
def ze(t:Tk):Prop:=t.s.size<=1024/\0<=t.Yk/\t.Yk<=10000
theorem Bj:fn []:=fun t a=>by cases a
theorem ng{M:List Tk}(h:fn y)(k:fn M):fn (y++M):=fun t a=>by
 rcases Ut.1 a with e | e
 ·exact h t e
 ·exact k t e
theorem md(h:ze z6):fn [z6]:=fun u a=>by rw[T0.1 a];exact h
theorem tX(r:Int)(h:ze z6):ze (rZ z6 r):=⟨by show(0:Nat)<=1024;omega,h.2⟩
theorem Ce(s:Xs)(r:Int)(k:Nat)(a:s.size<=1024)(b:k<=1024):ze (m9 g L s r k):=by
 have:=Be L k;exact⟨a,by show 0<=bJ L k;omega,by show bJ L k<=10000;omega⟩
theorem EO(a:fn b)(c:v<=l)(d:l<=1024):fn (jO g L v l b):=by
 unfold jO;split
 ·exact a
 ·exact ng a (md (Ce g L _ 0 v (by rw[We];omega) (by omega)))
theorem EK(i:Nat)(b:i<=1024):fn (jN g L i):=by
 induction i with
 | zero=>exact Bj
 | succ i a =>
  rw[jN];split
  ·exact EO g L _ i _ (a (by omega)) (pq L i) (by omega)
  ·exact a (by omega)
theorem LQ(a:L.size<=1024):fn (iY g L):=by
 unfold iY;split
 ·next i h =>
  have b:i<L.size:=TY.1 (UC h);exact ng (EK g L i (by omega)) (md (Ce g L _ 1 i (by show(0:Nat)<=1024;omega) (by omega)))
 ·exact ng (EO g L _ _ _ (EK g L _ a) (pq L _) a) (md (Ce g L _ 0 _ (by show(0:Nat)<=1024;omega) a))
theorem xH(h:ze z6)(k:fn y):fn (z6 :: y):=fun u a=>by
 rcases Un.1 a with e | e
 ·rw[e];exact h
 ·exact k u e
theorem Mp(b:Bool)(L:List Tk)(h:fn L):fn (bZ b L):=by
 induction L generalizing b with
 | nil=>cases b <;> exact Bj
 | cons t L c =>
  have d:ze t:=h t (Ur ..);have a:fn L:=fun u f=>h u (Uq _ f);have e:∀r,ze ⟨⟨#[]⟩,r,t.Yi,t.Yj,t.Yk⟩:=fun r=>⟨by show(0:Nat)<=1024;omega,d.2⟩
  cases b
  ·rw[bZ];split
   ·exact c true a
   ·exact xH d (c false a)
  ·rw[bZ];split
   ·exact xH d (c true a)
   ·split
    ·exact c false a
    ·split
     ·exact xH (e 3) (c true a)
     ·split
      ·exact md (e 2)
      ·exact c true a
theorem KN(f:∀k e c,fn c->fn (z3 k e c).1)(w:Fs)(n:Nat):∀L,L.length<=n->fn L->∀e c,fn c->fn (cZ z3 w L e c).1:=by
 induction n with
 | zero =>
  intro L m _ e c d;cases L with
  | nil=>rw[cZ];exact d
  | cons _ _=>simp at m
 | succ n q =>
  intro L m s e c d;cases L with
  | nil=>rw[cZ];exact d
  | cons t r =>
   have o:ze t:=s t (Ur ..);have l:fn r:=fun u p=>s u (Uq _ p);have g:r.length<=n:=(by simpa using m);rw[cZ.eq_def];simp only;split
   ·split
    ·exact d
    ·exact ng d (md (tX 7 o))
   ·split
    ·exact q r g l e _ (ng d (md o))
    ·split
     ·exact ng d (md (tX 4 o))
     ·cases r with
      | nil=>exact d
      | cons a r =>
       have v:ze a:=l a (Ur ..);cases r with
       | nil=>exact ng d (md (tX _ v))
       | cons b r =>
        have x:ze b:=l b (Uq _ (Ur ..));have j:fn r:=fun u p=>l u (Uq _ (Uq _ p));have i:r.length<=n:=(by simp at g;omega);simp only;split
        ·exact ng d (md (tX _ v))
        ·split
         ·exact ng d (md (tX _ x))
         ·split
          ·exact q r i j e c d
          ·split
           ·exact f _ e c d
           ·exact q r i j _ _ (f _ e c d)
theorem KR(b:∀k,(ak H k).size<=1024)(n:Nat):∀k d a,fn a->fn (eS H n k d a).1:=by
 induction n with
 | zero=>intro k d a c;exact c
 | succ n e =>
  intro k d a c;rw[eS];exact KN _ e H _ _ (TI _) (Mp _ _ (LQ _ _ (b k))) _ _ c
theorem Dd(a:∀l,(ak H l).size<=1024):fn (cG H l).1:=by
 have h:fn (qq H l):=KR H a _ _ _ _ Bj;unfold cG;split
 ·exact fun t b=>h t (WW _ b)
 ·exact h
def zl(T:List Tk)(S:List Sm)(j:Nat):Nat:=(aq S j).h+(bu T (aq S j).h).length
theorem SB(p:Xs->Bool)(L:Xt)(h:∃x∈L,p x=false):(L.takeWhile p).length<L.length/\p (L.getD (L.takeWhile p).length ⟨#[]⟩)=false/\∀q,q<(L.takeWhile p).length->p (L.getD q ⟨#[]⟩)=true:=by
 induction L with
 | nil=>obtain⟨x,f,-⟩:=h;cases f
 | cons a L j =>
  cases b:p a
  ·rw[List.takeWhile_cons,TH (by rw[b];simp)];exact⟨by simp,b,fun q d=>by simp at d⟩
  ·rw[List.takeWhile_cons,TJ b]
   obtain⟨k,g,i⟩:=j (by
    obtain⟨x,f,c⟩:=h;rcases Un.1 f with e | e
    ·rw[e,b]at c;cases c
    ·exact⟨x,e,c⟩)
   refine⟨by simp;omega,g,fun q d=>?_⟩;cases q with
   | zero=>exact b
   | succ q=>exact i q (by simpa using d)
theorem Oc(P:tE y o w)(m:((aq o w).k.toList == [36,112])=true) :
  (aq o w).h<=zl y o w/\((tS y (zl y o w)).toList == [36,61])=true/\(∀q,(aq o w).h<=q->q<zl y o w->((tS y q).toList == [36,61])=false)/\zl y o w<(aq o w).z-1:=by
 have s:=P.zt;have r:=P.pos;have d:=P.le;have a:=P.cl;have n:=nG y (aq o w).h ((aq o w).z-1) d (by omega);have l:aK (eF y (aq o w).h ((aq o w).z-1)) ⟨#[36,61]⟩=true:=by
  unfold ja at a;split at a
  ·cases a
  ·split at a
   ·cases a
   ·cases e:aK (eF y (aq o w).h ((aq o w).z-1)) ⟨#[36,61]⟩
    ·rw[m,e,TJ (by decide)]at a;cases a
    ·rfl
 obtain⟨i,p,j⟩:=UG.1 l;have c:∃x∈eF y (aq o w).h ((aq o w).z-1),jz x=false:=by
  refine⟨i,p,?_⟩;unfold jz;have e:i.toList=(⟨#[36,61]⟩:Xs).toList:=by simpa using j
  rw[e];decide +kernel
 obtain⟨f,b,g⟩:=SB jz _ c;rw[<-uD P]at f b g;rw[n]at f;unfold zl;refine⟨by omega,?_,fun q t u=>?_,by omega⟩
 ·rw[tI y _ _ _ (by omega) (by omega)]at b;unfold jz at b;simpa using b
 ·have:=g (q-(aq o w).h) (by omega);rw[tI y _ _ _ (by omega) (by omega),show(aq o w).h+(q-(aq o w).h)=q by omega]at this;unfold jz at this;simpa using this
def DO(T:List Tk)(S:List Sm)(a:Nat):jP:=fB T S a (zl T S a) ((aq S a).z-1)
def Ap(T:List Tk)(S:List Sm)(a:Nat):il:=lA T S a (DO T S a) (T.getD ((aq S a).z-1) gQ)
theorem Cz.keptS(h:Cz n p w o)(c:ae z7 n k)(m:∀g,p=some ⟨g,0,none⟩->g∉z7):Cz k p w o:=by
 refine⟨h.1,fun j t r=>?_⟩;obtain⟨g,e,b,d,f,i,l⟩:=h.2 j t r;have q:∀a,k.cell? ⟨g,a,none⟩=n.cell? ⟨g,a,none⟩:=fun a=>Ud (c.block g b (m g e));exact⟨g,e,TP b c.size,by rw[q];exact d,by rw[q];exact f,by rw[q];exact i,by rw[q];exact l⟩
theorem gy.off{A:Xu}(h:gy n w y p u o y0 t)(v:n.heap[x]?=some (.cells #[slice A y5 y6,I,M,N,z5] 85))(l:ae [x] n k):gy k w y p u o y0 t:=by
 obtain⟨z,-⟩:=od v;refine⟨l.get h.d (fun r=>?_),?_,?_⟩
 ·simp at r;subst r;have:=h.d.symm.trans v;simp at this
 ·cases q:y with
  | nil=>rw[q]at h;exact⟨h.t.1,fun j c i=>by simp at i⟩
  | cons c L =>
   rw[q]at h;refine h.t.keptS l (fun g e b=>?_);simp at b;subst b;obtain⟨g,f,-,a,-⟩:=h.t.2 0 c rfl;rw[f]at e;cases e;rw[XF]at a;rw[z]at a;cases a
 ·cases m:o with
  | nil=>rw[m]at h;exact⟨h.s.1,fun j c i=>by simp at i⟩
  | cons c L =>
   rw[m]at h;refine h.s.keptS l (fun g e b=>?_);simp at b;subst b;obtain⟨g,f,-,a,-⟩:=h.s.2 0 c rfl;rw[f]at e;cases e;rw[XF]at a;rw[z]at a;cases a
theorem FC(g:Xu)(y:Nat)(f:Xu)(x:Nat)(E:Xu)(n c:Nat)(D G H:Value)(w:World)(F:w.heap[v]?=some (.cells #[slice E n c,D,pointer (some ⟨l,0,none⟩),G,H] 85))(N:gy w l b g y (aa b) f x)(t:b.length<=10000)(A:fn b)(d:∀q,q<b.length->aY b (aa b) q=0) :
  Calls prog 58 #[pointer (some ⟨v,0,none⟩)] w fun e V=>LX b (aa b) v l (slice E n c) D (DO b (aa b)) (Ap b (aa b)) w e V:=by
 have p:=dN b;have W:(aa b).length<=b.length:=om b b.length;have s:∀m,ae [v] w m->gy m l b g y (aa b) f x:=fun m k=>N.off F k;have j:∀a,mx (aa b) a=true->cd (aq (aa b) a).k=false:=fun a h=>fN h (by decide);refine FB v l b g y (aa b) f x _ D G H _ _ w F s (by omega) (OH b t d _ (TI _)).ok.a ?_ ?_ ?_
 ·intro a o u m C;have P:=ly p d a o (j a u);obtain⟨I,J,K,L⟩:=Oc P u;have:=P.pos;have:=P.zt;exact Fg l a (zl b (aa b) a) ((aq (aa b) a).z-1) b g y _ f x m (s m C) (OH b t d a (by omega)) o (vE P) A I J K (by omega) L (by omega) P.dot
 ·intro a o u B m C R;have P:=ly p d a o (j a u);have:=P.pos;have:=P.zt;exact Ck l a ((aq (aa b) a).z-1) b g y _ f x (DO b (aa b) a) B m (s m C) (OH b t d a (by omega)) (QG p d a (by omega)) (SA p d a (by omega)) o (vE P) ((OH b t d _ (TI _)).ok.a a o) (by omega) (by omega) R (JI (by omega) A t _ _ (by omega))
 ·intro a o u;have P:=ly p d a o (j a u);have:=P.zt;obtain⟨T,-,U⟩:=sJ (T:=b) (S:=aa b) (a:=a) (by omega) A t (zl b (aa b) a) ((aq (aa b) a).z-1) (by omega);refine⟨U,fun i O=>?_⟩
  show(bN (fB b (aa b) a (zl b (aa b) a) ((aq (aa b) a).z-1)).st i).ref<=(a:Int)
  rcases(T i O).X9 with h | ⟨h,-⟩ | ⟨r,Q,M,-⟩
  ·rw[h];omega
  ·rw[h];omega
  ·rw[M];have:=Q.1;omega
theorem Gi(j:∀k d c,d[k]?=some false->(z3 k d c).1.length+2000*aV (z3 k d c).2<=c.length+2000*aV d)(f:Fs)(n:Nat):∀L,L.length<=n->∀d c,(cZ z3 f L d c).1.length+2000*aV (cZ z3 f L d c).2<=c.length+L.length+2000*aV d:=by
 induction n with
 | zero =>
  intro L m d c;cases L with
  | nil=>rw[cZ];simp
  | cons _ _=>simp at m
 | succ n p =>
  intro L m d c;cases L with
  | nil=>rw[cZ];simp
  | cons t r =>
   have g:r.length<=n:=(by simpa using m);rw[cZ.eq_def];simp only[List.length_cons];split
   ·split
    ·simp only;omega
    ·simp only[List.length_append,List.length_cons,List.length_nil];omega
   ·split
    ·have:=p r g d (c++[t]);rw[TO,Uw,UE]at this;omega
    ·split
     ·simp only[List.length_append,List.length_cons,List.length_nil];omega
     ·cases r with
      | nil=>simp only;omega
      | cons a r =>
       cases r with
       | nil=>simp only[List.length_append,List.length_cons,List.length_nil];omega
       | cons b r =>
        have i:r.length<=n:=(by simp at g;omega);simp only[List.length_cons];split
        ·simp only[List.length_append,List.length_cons,List.length_nil];omega
        ·split
         ·simp only[List.length_append,List.length_cons,List.length_nil];omega
         ·split
          ·have:=p r i d c;omega
          ·next l =>
           have o:d[(bS f a.s).toNat]?=some false:=by
            rw[TG]at l;cases e:d[(bS f a.s).toNat]? with
            | none=>rw[e]at l;exact absurd rfl l
            | some x=>rw[e]at l;cases x;rfl;exact absurd rfl l
           have q:=j (bS f a.s).toNat d c o;split
           ·omega
           ·have:=p r i (z3 (bS f a.s).toNat d c).2 (z3 (bS f a.s).toNat d c).1;omega
theorem Gk(c:∀k,(ak H k).size<=1024)(n:Nat):∀k b a,b[k]?=some false->(eS H n k b a).1.length+2000*aV (eS H n k b a).2<=a.length+2000*aV b:=by
 induction n with
 | zero=>intro k b a _;rw[eS];simp
 | succ n e =>
  intro k b a d;rw[eS];have f:=Gi (eS H n) e H _ (su H k) (TI _) (b.set k true) a;have g:=EB H k;have i:=l6 b k d;have j:=c k;omega
theorem JO(c:H.length<=4)(a:∀l,(ak H l).size<=1024)(d:l<H.length):(cG H l).1.length<=10000:=by
 have h:=Gk H a H.length l (List.replicate H.length false) [] (by rw[U4,TJ d]);rw[nY]at h;have b:(qq H l).length<=10000:=by unfold qq;simp at h;omega
 unfold cG;split
 ·rw[Vx];omega
 ·exact b
structure E2(w:World)(v:Nat)(fs:Fs)(h:Hd)(T:List Tk)(lo hi b:Nat)(aT:Xu)(cT:Nat)(aS:Xu)(cS:Nat)(PS:List (jP×Hd))(h1:Hd)(RS:List il)(h2:Hd):Prop where
 rv:gC w v fs h true (pointer (some ⟨b,0,none⟩)) (slice h1.ao PS.length h1.cap) (slice h2.ao RS.length h2.cap)
 db:gy w b T aT cT (aa T) aS cS
 ps:PS.map (·.1)=(List.range (aa T).length).map (nO (aa T) (DO T (aa T)))
 Yh:oJ (aa T) PS ((List.range (aa T).length).map (mI T (aa T) (Ap T (aa T)))) RS (aa T).length
 s1:aB w h1 (gN PS)
 s2:aB w h2 (gG RS)
 sq:∀x∈PS,dh w x.2.ao 6 lI x.1.st
 nb:lo<=b/\b<hi
 nT:∀g,aT=some ⟨g,0,none⟩->lo<=g/\g<hi
 nS:∀g,aS=some ⟨g,0,none⟩->lo<=g/\g<hi
 n1:∀g,h1.Yc=some g->lo<=g/\g<hi
 n2:∀g,h2.Yc=some g->lo<=g/\g<hi
 nq:∀x∈PS,∀g,x.2.ao=some ⟨g,0,none⟩->lo<=g/\g<hi
def zh(w:World)(v:Nat)(fs:Fs)(h:Hd)(T:List Tk)(lo hi:Nat):Prop:=∃b aT cT aS cS PS h1 RS h2,E2 w v fs h T lo hi b aT cT aS cS PS h1 RS h2
theorem zh.Yb(a:zh n w d D y x u)(c:ae z7 n k)(C:w∉z7)(A:∀q,D.Yc=some q->q∉z7)(B:∀q,x<=q->q<u->q∉z7):zh k w d D y x u:=by
 obtain⟨b,o,r,m,p,j,v,l,z,a⟩:=a;have q:∀g,x<=g/\g<u->g∉z7:=fun g f=>B g f.1 f.2
 exact⟨b,o,r,m,p,j,v,l,z,{ a with
  rv:=a.rv.keptS c C A
  db:=⟨c.get a.db.d (q b a.nb),a.db.t.keptS c (fun g e=>q g (a.nT g e)),a.db.s.keptS c (fun g e=>q g (a.nS g e))⟩
  s1:=a.s1.XX (fun g e=>c.block g (a.s1.lt e) (q g (a.n1 g e)))
  s2:=a.s2.XX (fun g e=>c.block g (a.s2.lt e) (q g (a.n2 g e)))
  sq:=fun f i=>(a.sq f i).keptS c (fun g e=>q g (a.nq f i g e)) }⟩
theorem zh.rvAt(a:zh n w d D y x u):∃c e f,gC n w d D true c e f:=by
 obtain⟨b,k,m,j,l,g,o,i,p,a⟩:=a;exact⟨_,_,_,a.rv⟩
theorem NV{X:World}{f:List (jP×Hd)}{m:List il}{j:Hd}(a:xa n k w x I M f c m j)(i:gy k x y p y5 (aa y) y0 y6)(G:gC X w d D true (pointer (some ⟨x,0,none⟩)) (slice c.ao f.length c.cap) (slice j.ao m.length j.cap))(K:ae [w,u] k X)(N:w<t)(J:u<t)(r:t<=n.heap.size)(v:t<=x)(o:∀g,p=some ⟨g,0,none⟩->t<=g/\g<k.heap.size)(nS:∀g,y0=some ⟨g,0,none⟩->t<=g/\g<k.heap.size)(F:f.map (·.1)=(List.range (aa y).length).map (nO (aa y) (DO y (aa y))))(A:oJ (aa y) f ((List.range (aa y).length).map (mI y (aa y) (Ap y (aa y)))) m (aa y).length):zh X w d D y t X.heap.size:=by
 have z:=K.size;have q:∀g,t<=g->g∉[w,u]:=fun g L H=>by simp at H;omega
 have B:∀g,c.Yc=some g->t<=g/\g<X.heap.size:=fun g e=>⟨TV r (a.f1 g e),TP (a.o1.lt e) z⟩
 have C:∀g,j.Yc=some g->t<=g/\g<X.heap.size:=fun g e=>⟨TV r (a.f2 g e),TP (a.o2.lt e) z⟩
 have E:∀b∈f,∀g,b.2.ao=some ⟨g,0,none⟩->t<=g/\g<X.heap.size:=fun b l g e=>⟨TV r ((a.q b l).2 g e).1,TP (a.ql b l g e) z⟩
 exact⟨x,p,y5,y0,y6,f,c,m,j,{
  rv:=G
  db:=⟨K.get i.d (q x v),i.t.keptS K (fun g e=>q g (o g e).1),i.s.keptS K (fun g e=>q g (nS g e).1)⟩
  ps:=F
  Yh:=A
  s1:=a.o1.XX (fun g e=>K.block g (a.o1.lt e) (q g (B g e).1))
  s2:=a.o2.XX (fun g e=>K.block g (a.o2.lt e) (q g (C g e).1))
  sq:=fun b l=>(a.q b l).1.keptS K (fun g e=>q g (E b l g e).1)
  nb:=⟨v,TP (aj i.d) z⟩
  nT:=fun g e=>⟨(o g e).1,TP (o g e).2 z⟩
  nS:=fun g e=>⟨(nS g e).1,TP (nS g e).2 z⟩
  n1:=B
  n2:=C
  nq:=E }⟩
def Ta(fs:Fs)(k v:Nat)(h:Hd)(f:pu)(c:Int)(w:World)(e:Ending)(w':World):Prop :=
 e=returned (tuple #[iw f,int i64 c])/\((c=0->∃lo,w.heap.size<=lo/\zh w' v fs h (cG fs k).1 lo w'.heap.size)/\(c≠0->∃p2 p3 p4,gC w' v fs h false p2 p3 p4))/\ae [v] w w'
theorem gC.keptV{on':Bool}(a:gC n w d D z2 I M N)(f:ae [w] n k)(c:k.heap[w]?=some (.cells #[slice D.ao d.length D.cap,bool on',z5,y7,y9] 85)):gC k w d D on' z5 y7 y9 :=
 ⟨c,a.Ym.XX (fun q b=>f.block q (a.Ym.lt b) (by simp;intro e;rw[e]at b;exact a.far b)),a.far,a.le⟩
theorem tV(h:∀j,j<d.length->(ak d j).size<=1024)(k:Nat):(ak d k).size<=1024:=by
 by_cases a:k<d.length
 ·exact h k a
 ·unfold ak;rw[TG,UA (by omega)];show(0:Nat)<=1024;omega
theorem gC.X3(a:gC n w d D z2 I M N)(c:w≠x)(b:∀q,D.Yc=some q->q≠x)(i:Nat)(u:Value):gC (n.setCell ⟨x,i,none⟩ u) w d D z2 I M N :=
 ⟨((ae.refl [x] n).sl1 _).get a.d (by simp;exact c),a.Ym.X3 b i u,a.far,a.le⟩
theorem wJ{c u0 u1 u2 u3:Value}(e:k.heap[w]?=some (.cells #[z5,y7,y9,c] 87))(g:gC k x d D z2 I M N)(l:x<w)(i:∀q,D.Yc=some q->q<w)(f:ae [x] n k)(b:n.heap.size<=w) :
  ((((k.setCell ⟨w,0,none⟩ u0).setCell ⟨w,1,none⟩ u1).setCell ⟨w,2,none⟩ u2).setCell ⟨w,3,none⟩ u3).heap[w]?=some (.cells #[u0,u1,u2,u3] 87)/\gC ((((k.setCell ⟨w,0,none⟩ u0).setCell ⟨w,1,none⟩ u1).setCell ⟨w,2,none⟩ u2).setCell ⟨w,3,none⟩ u3) x d D z2 I M N/\ae [x] n ((((k.setCell ⟨w,0,none⟩ u0).setCell ⟨w,1,none⟩ u1).setCell ⟨w,2,none⟩ u2).setCell ⟨w,3,none⟩ u3):=by
 refine⟨ab (ab (ab (ab e 0 u0) 1 u1) 2 u2) 3 u3,?_,(((f.setCell (TU b) _).setCell (TU b) _).setCell (TU b) _).setCell (TU b) _⟩;have a:∀q,D.Yc=some q->q≠w:=fun q j=>by have:=i q j;omega
 exact(((g.X3 (by omega) a _ _).X3 (by omega) a _ _).X3 (by omega) a _ _).X3 (by omega) a _ _
theorem nH(h:n.heap[w]?=some (.cells #[I,M,N,z5] 87)) :
  (n.cell? ⟨w,0,none⟩=some I/\n.cell? ⟨w,1,none⟩=some M/\n.cell? ⟨w,2,none⟩=some N/\n.cell? ⟨w,3,none⟩=some z5)/\(n.frozen? ⟨w,0,none⟩=false/\n.frozen? ⟨w,1,none⟩=false/\n.frozen? ⟨w,2,none⟩=false/\n.frozen? ⟨w,3,none⟩=false)/\w<n.heap.size:=by
 refine⟨⟨?_,?_,?_,?_⟩,⟨am h 0,am h 1,am h 2,am h 3⟩,aj h⟩
 all_goals (rw[ah h];rfl)
theorem xA(c:H.length<=4)(d:∀j,j<H.length->(ak H j).size<=1024)(m:l<H.length)(f:((zO (cG H l).1 (aa (cG H l).1)).Yl==0)=true)(b:((cG H l).2.Yl==0)=true):fT H l=cY/\∀q,q<(cG H l).1.length->aY (cG H l).1 (aa (cG H l).1) q=0:=by
 obtain⟨e,g⟩:=xy H l c d m;have n:(fT H l).1=0:=by
  unfold fT;rw[TH (by rw[f];simp)];exact Wu b
 refine⟨?_,(g (by rw[e,n];rfl)).1.u⟩;have k:(cG H l).2=gQ:=by
  unfold cG at b ⊢;split
  ·next a =>
   rw[TJ a]at b;unfold fj at a;cases i:(qq H l).getLast? with
   | none=>rw[i]at a;cases a
   | some t =>
    rw[i]at a b;simp only[Option.getD_some]at b;simp only at a;rw[b]at a;cases a
  ·rfl
 unfold fT;rw[TH (by rw[f];simp),k];rfl
set_option maxRecDepth 100000
theorem zB(h:Hd)(u:Bool)(v x y:Value)(n:Xs)(w:World)(f:gC w z0 H h u v x y)(J:bS H n<0) :
  Calls prog 38 #[pointer (some ⟨z0,0,none⟩),string n] w fun e z=>e=returned (tuple #[iw cY,int i64 5])/\ae [] w z:=by
 obtain⟨W,j⟩:=bq (w.alloc (.cells #[int i64 0,string ⟨#[]⟩,int i64 0,int i64 0] 87));have a:Xr _:=fH j.o;have k:Xr _:=f9 j.o;have b:Xr _:=f.XR a.o;have i:Xr _:=(nu H h.ao h.cap n W (by have:=f.le;omega) b.o.Ym.srcFi);have K:W.cell? ⟨z0,0,none⟩=some (slice h.ao H.length h.cap):=by rw[ah b.o.d];rfl
 obtain⟨⟨E,F,G,I⟩,⟨A,B,C,D⟩,M⟩:=nH k.o;have c:Xr (z0<w.heap.size/\∀q,h.Yc=some q->q<w.heap.size):=⟨aj f.d,fun q t=>f.Ym.lt t⟩;clear f;go_enter func38,ntmps38;go_upto_region 1 with fail
 rw[j.o];go_wp2_with (go_at_call 36;refine TM i.o ?_;rintro e L ⟨rfl,g⟩;rw[g];clear g);obtain⟨l,-,-⟩:=wJ (u0:=int i64 0) (u1:=string ⟨#[]⟩) (u2:=int i64 0) (u3:=int i64 0) k.o b.o c.o.1 c.o.2 (pG a.o) (TI _);obtain⟨⟨m,p,r,s⟩,-,-⟩:=nH l;exact TR (v:=tuple #[agg #[int i64 0,string ⟨#[]⟩,int i64 0,int i64 0],int i64 5]) (by simp[results,results38,go_sem,m,p,r,s]) rfl ⟨rfl,(((a.o.sr1 (TI _) _).sr1 (TI _) _).sr1 (TI _) _).sr1 (TI _) _⟩
theorem Cn(a:Fs)(h:Hd)(on:Bool)(p2 p3 p4:Value)(n:Xs)(w:World)(hR:gC w v a h on p2 p3 p4)(hf:bS a n=(l:Int))(hk:l<a.length)(Z:∀j,j<a.length->(ak a j).size<=1024) :
  Calls prog 38 #[pointer (some ⟨v,0,none⟩),string n] w fun e w'=>Ta a l v h (fT a l) (if((fT a l).1==0)=true then 0 else 6) w e w':=by
 unfold Ta;have ax:=hR.le;obtain⟨cb,k⟩:=h;obtain⟨gf,av,cf,-⟩:=hR.Ym.srcFi.2 l hk;replace av:cb=some ⟨gf,0,none⟩:=av;subst av;obtain⟨W,HW⟩:=bq (w.alloc (.cells #[int i64 0,string ⟨#[]⟩,int i64 0,int i64 0] 87));have ba:Xr _:=fH HW.o;have BF:Xr _:=f9 HW.o;have C:Xr _:=hR.XR ba.o;have a6:Xr _:=(nu a (some ⟨gf,0,none⟩) k n W (by omega) C.o.Ym.srcFi);rw[hf]at a6;have v0:W.cell? ⟨v,0,none⟩=some (slice (some ⟨gf,0,none⟩) a.length k):=by rw[ah C.o.d];rfl
 have v1:W.cell? ⟨v,1,none⟩=some (bool on):=by rw[ah C.o.d];rfl
 have e1:=am C.o.d 1;have c:Xr (v<w.heap.size/\∀q,(⟨some ⟨gf,0,none⟩,k⟩:Hd).Yc=some q->q<w.heap.size):=⟨aj hR.d,fun q hq=>hR.Ym.lt hq⟩;obtain⟨L,Q⟩:=bq (W.setCell ⟨v,1,none⟩ (bool false));have O:Xr (gC L v a ⟨some ⟨gf,0,none⟩,k⟩ false p2 p3 p4):=by show gC _ _ _ _ _ _ _ _;rw[<-Q.o];exact C.o.off
 have an:Xr (ae [v] w L):=by show ae _ _ _;rw[<-Q.o];exact(pG ba.o).sl1 _
 have az:Xr (L.heap[w.heap.size]?=some (.cells #[int i64 0,string ⟨#[]⟩,int i64 0,int i64 0] 87)):=by
  show _=_;rw[<-Q.o];exact((ae.refl [v] _).sl1 _).get BF.o (by have:=c.o.1;simp;omega)
 have N:Xr _:=JP a gf k l L ax (tV Z) hk O.o.Ym.srcFi (O.o.Ym.lt rfl);have ch:L.cell? ⟨v,0,none⟩=some (slice (some ⟨gf,0,none⟩) a.length k):=by rw[ah O.o.d];rfl
 have P:Xr _:=Dd a l (tV Z);have z:Xr _:=JO a l ax (tV Z) hk;have A:Xr _:=xA a l ax Z hk;have y:Xr (fT a l=if((zO (cG a l).1 (aa (cG a l).1)).Yl==0)=false then MS (zO (cG a l).1 (aa (cG a l).1)) else MS (cG a l).2):=rfl;obtain⟨f,Hf⟩:=bq (fT a l);rw[Hf.o]at y A ⊢;obtain⟨cc,S⟩:=bq ((if(f.1==0)=true then(0:Int) else 6));rw[S.o];obtain⟨⟨T,t⟩,b5⟩:∃Tt,Xr (cG a l=Tt):=⟨_,rfl⟩
 rw[b5.o]at N P z A y ⊢;simp only at N P z A y ⊢;obtain⟨u,Hu⟩:=bq (zO T (aa T));rw[Hu.o]at A y;have bj:Xr (∀i,(tS T i).size<=1073741824):=fun i=>by
  unfold tS;rw[TG];cases e:T[i]? with
  | none=>show(0:Nat)<=_;omega
  | some t=>have:=(P.o t (Vg e)).1;show t.s.size<=_;omega
 clear hR cf hf;go_enter func38,ntmps38;go_upto_region 1 with fail
 rw[HW.o];go_upto_region 5 with (go_at_call 36;refine TM a6.o ?_;rintro e w9 ⟨rfl,bl⟩;rw[bl];clear bl)
 rw[Q.o];clear v0 v1 e1;obtain⟨ts,tr,tf,tl,tc⟩:=t;obtain⟨us,ur,uf,ul,uc⟩:=u;simp only at N;go_upto_region 6 with (go_at_call 55;refine TM N.o ?_;rintro e w7 ⟨aT,cT,rfl,sT,k7,n7⟩)
 obtain⟨X,G⟩:=bq (w7.alloc (.cells #[int i64 tr,string tf,int i64 tl,int i64 tc] 87));have a7:Xr (ae [] L X):=by show ae _ _ _;rw[<-G.o];exact k7.alloc _
 have br:Xr _:=f9 G.o;have R:Xr (w7.heap.size<=X.heap.size/\L.heap.size<=X.heap.size):=⟨by rw[<-G.o];simp,a7.o.size⟩;have bc:Xr _:=n7;have b4:Xr _:=(Nr T aT cT X (lQ.XR sT (by rw[<-G.o];exact kr0.alloc _)) (by have:=z.o;omega) bj.o);rw[G.o];clear sT k7 ch n7;go_upto_region 7 with (go_at_call 56;refine TM b4.o ?_;rintro e w9 ⟨rfl,aS,cS,d9,k9,n9⟩)
 have al:Xr _:=(xF X.heap.size T aT cT (aa T) aS cS w9 d9 (by have:=z.o;omega) (QI T (by have:=z.o;omega)) bj.o);rw[Hu.o]at al;simp only at al;have be:Xr (∀g,aT=some ⟨g,0,none⟩->L.heap.size<=g/\g<w9.heap.size):=fun g J=>⟨(bc.o g J).1,TP (bc.o g J).2 (TV R.o.1 k9.size)⟩
 have bd:Xr (∀g,aS=some ⟨g,0,none⟩->L.heap.size<=g/\g<w9.heap.size):=fun g J=>⟨TV R.o.2 (n9 g J).1,(n9 g J).2⟩
 have b1:Xr _:=a7.o.trans k9;have bs:Xr _:=(k9.get br.o (by simp));have b6:Xr _:=k9.size;have bw:Xr _:=d9;clear d9 k9 n9;go_upto_region 8 with (go_at_call 57;refine TM al.o ?_;rintro e cj ⟨rfl,bp⟩)
 obtain⟨U,D⟩:=bq (cj.alloc (.cells #[int i64 ur,string uf,int i64 ul,int i64 uc] 87));have a1:Xr _:=f9 D.o;have x:Xr (ae [] w9 U):=by show ae _ _ _;rw[<-D.o];exact bp.alloc _
 have B:Xr _:=b1.o.trans x.o;have a4:Xr _:=gy.XR bw.o x.o;have bv:Xr _:=(x.o.get bs.o (by simp));have b:Xr _:=O.o.XR B.o;have M:Xr _:=(B.o.get az.o (by simp));have ao:Xr _:=an.o.trans (pG B.o);rw[D.o];clear bp;obtain⟨⟨u0,u1,u2,u3⟩,-,uz⟩:=nH a1.o;obtain⟨⟨t0,t1,t2,t3⟩,-,tz⟩:=nH bv.o;obtain⟨⟨g0,g1,g2,g3⟩,⟨f0,f1,f2,f3⟩,wz⟩:=nH M.o;cases hu:(ur==0)
 ·have HX:Xr (f=(ur,⟨uf,ul,uc⟩)):=by show _=_;rw[y.o];exact TJ hu
  have HC:Xr (cc=6):=cg (by rw[<-S.o,HX.o];exact TH (fun q=>by have q':(ur==0)=true:=q;rw[hu]at q';cases q'));go_wp2;obtain⟨B1,R1,K1⟩:=wJ (u0:=int i64 ur) (u1:=string uf) (u2:=int i64 ul) (u3:=int i64 uc) M.o b.o c.o.1 c.o.2 ao.o (TI _);obtain⟨⟨c0,c1,c2,c3⟩,-,-⟩:=nH B1;exact TR (v:=tuple #[agg #[int i64 ur,string uf,int i64 ul,int i64 uc],int i64 6]) (by simp[results,results38,go_sem,c0,c1,c2,c3]) rfl (by rw[HC.o,HX.o];exact⟨rfl,⟨(fun q=>by cases q),fun _=>⟨_,_,_,R1⟩⟩,K1⟩)
 ·cases ht:(tr==0)
  ·have HX:Xr (f=(tr,⟨tf,tl,tc⟩)):=(by show _=_;rw[y.o];exact TH (fun q=>by have q':(ur==0)=false:=q;rw[hu]at q';cases q'));have HC:Xr (cc=6):=cg (by rw[<-S.o,HX.o];exact TH (fun q=>by have q':(tr==0)=true:=q;rw[ht]at q';cases q'));go_wp2;obtain⟨B1,R1,K1⟩:=wJ (u0:=int i64 tr) (u1:=string tf) (u2:=int i64 tl) (u3:=int i64 tc) M.o b.o c.o.1 c.o.2 ao.o (TI _);obtain⟨⟨c0,c1,c2,c3⟩,-,-⟩:=nH B1;exact TR (v:=tuple #[agg #[int i64 tr,string tf,int i64 tl,int i64 tc],int i64 6]) (by simp[results,results38,go_sem,c0,c1,c2,c3]) rfl (by rw[HC.o,HX.o];exact⟨rfl,⟨(fun q=>by cases q),fun _=>⟨_,_,_,R1⟩⟩,K1⟩)
  ·obtain⟨bk,ag⟩:=A.o hu ht;have a0:Xr _:=ag;have HX:Xr _:=bk;have HC:Xr (cc=0):=cg (by rw[<-S.o,HX.o];rfl);clear bk ag;have x2:U.cell? ⟨v,2,none⟩=some p2:=(by rw[ah b.o.d];rfl);have y2:=am b.o.d 2;have Y:=ab b.o.d 2 (pointer (some ⟨X.heap.size,0,none⟩));obtain⟨V,E⟩:=bq (U.setCell ⟨v,2,none⟩ (pointer (some ⟨X.heap.size,0,none⟩)));rw[E.o]at Y;have m:Xr (ae [v] U V):=(by show ae _ _ _;rw[<-E.o];exact(ae.refl [v] _).sl1 _);have ad:Xr _:=gy.off a4.o b.o.d m.o;have a2:Xr _:=(m.o.get M.o (by have:=c.o.1;simp;omega));have af:Xr _:=gC.keptV (on':=false) b.o m.o Y;have bz:Xr _:=FC v X.heap.size T aT cT aS cS _ _ _ _ _ _ V Y ad.o z.o P.o a0.o;clear Y;(go_upto_region 13 with fail);rw[E.o];clear x2 y2 u0 u1 u2 u3 uz t0 t1 t2 t3 tz g0 g1 g2 g3 f0 f1 f2 f3 wz;(go_upto_region 14 with (go_at_call 58;refine TM bz.o ?_;rintro e K ⟨PS,j1,j2,RS,rfl,bo,ai,jw⟩));have a3:Xr _:=(jw.Yb.get a2.o (by have:=c.o.1;simp;omega));have I:=jw.d;have H:=jw.Yb;have bf:Xr _:=gC.keptV (on':=false) af.o H I;have b2:Xr _:=(ao.o.trans m.o).trans H;have b0:Xr _:=jw;have bT:Xr _:=bo;have bx:Xr _:=ai;have a5:Xr _:=gy.off ad.o af.o.d H;have ap:Xr (w9.heap.size<=V.heap.size/\V.heap.size<=K.heap.size/\X.heap.size<=w9.heap.size):=⟨TV x.o.size m.o.size,H.size,b6.o⟩;have x1:K.cell? ⟨v,1,none⟩=some (bool false):=(by rw[ah I];rfl);have y1:=am I 1;have ar:=ab I 1 (bool true);obtain⟨ca,F⟩:=bq (K.setCell ⟨v,1,none⟩ (bool true));rw[F.o]at ar;have r:Xr (ae [v] K ca):=(by show ae _ _ _;rw[<-F.o];exact(ae.refl [v] _).sl1 _);have bg:Xr _:=gC.keptV (on':=true) bf.o r.o ar;have ac:Xr _:=(r.o.get a3.o (by have:=c.o.1;simp;omega));have b3:Xr _:=b2.o.trans r.o;clear jw bo ai I H ar;(go_upto_region 15 with fail);rw[F.o];clear x1 y1;obtain⟨⟨g0,g1,g2,g3⟩,⟨f0,f1,f2,f3⟩,wz⟩:=nH ac.o;go_wp2;obtain⟨B1,R1,K1⟩:=wJ (u0:=int i64 0) (u1:=string ⟨#[]⟩) (u2:=int i64 0) (u3:=int i64 0) ac.o bg.o c.o.1 c.o.2 b3.o (TI _);have KX:ae [v,w.heap.size] K _:=((((r.o.mono (S':=[v,w.heap.size]) (fun q hq _=>by rw[T0.1 hq];exact Ur)).setCell (p:=⟨w.heap.size,0,none⟩) (TZ (by simp)) (int i64 0)).setCell (p:=⟨w.heap.size,1,none⟩) (TZ (by simp)) (string ⟨#[]⟩)).setCell (p:=⟨w.heap.size,2,none⟩) (TZ (by simp)) (int i64 0)).setCell (p:=⟨w.heap.size,3,none⟩) (TZ (by simp)) (int i64 0);obtain⟨⟨c0,c1,c2,c3⟩,-,-⟩:=nH B1;exact TR (v:=tuple #[agg #[int i64 0,string ⟨#[]⟩,int i64 0,int i64 0],int i64 0]) (by simp[results,results38,go_sem,c0,c1,c2,c3]) rfl (by rw[HC.o,HX.o];exact⟨rfl,⟨fun _=>⟨L.heap.size,an.o.size,NV b0.o a5.o R1 KX (TP c.o.1 an.o.size) (aj az.o) (by have:=R.o;have:=ap.o;omega) R.o.2 (fun g J=>⟨(be.o g J).1,by have:=(be.o g J).2;have:=ap.o;omega⟩) (fun g J=>⟨(bd.o g J).1,by have:=(bd.o g J).2;have:=ap.o;omega⟩) bT.o bx.o⟩,fun q=>absurd rfl q⟩,K1⟩)
theorem Fl(h:l<v):aG (H.take v) l=aG H l/\ak (H.take v) l=ak H l:=by
 unfold aG ak;rw[TG,Wd,TJ h,TG];exact⟨rfl,rfl⟩
theorem oc.take(h:oc n p w d)(k:Nat)(f:k<=d.length):oc n p w (d.take k):=by
 have b:(d.take k).length=k:=by rw[UW];omega
 refine⟨by rw[b];exact TV f h.1,fun j a=>?_⟩;rw[b]at a;obtain⟨c,e⟩:=Fl d k j a;rw[c,e];exact h.2 j (by omega)
theorem MO(h:oc n (some ⟨w,0,none⟩) x d)(j:Nat)(u:Value)(a:(rT d)[j]?=some u):n.cell? ⟨w,j,none⟩=some u:=by
 have k:j<d.length*2:=by
  rw[<-wI];exact(TT.1 a).1
 obtain⟨i,e,-,b,c⟩:=h.2 (j / 2) (by omega);cases e
 obtain⟨f,g⟩:=xB d (j / 2) (by omega);rcases Xh j with e | e
 ·rw[show j / 2*2=j by omega]at b f;rw[f]at a;rw[b,<-a]
 ·rw[show j / 2*2+1=j by omega]at c g;rw[g]at a;rw[c,<-a]
def RY(w:World)(v:Nat)(h:Hd)(fs:Fs)(p2 p3 p4:Value)(r:Int)(w':World):Prop:=(r=0->∃h',gC w' v fs h' false p2 p3 p4/\ae (v :: h.Yc.toList) w w'/\∀b,h'.Yc=some b->h.Yc=some b∨w.heap.size<=b)/\(r≠0->ae [] w w')
theorem RY.stay{r:Int}(a:r≠0)(b:ae [] n k):RY n w D d I M N r k:=⟨fun e=>absurd e a,fun _=>b⟩
theorem gC.newRow{b:Fs}(a:gC n w d D z2 I M N)(p:ae [] n k)(o:aB k c (cW b))(j:∀q,c.Yc=some q->n.heap.size<=q)(l:b.length<=4)(m:x=b.length):gC (k.setCell ⟨w,0,none⟩ (slice c.ao x c.cap)) w b c z2 I M N:=by
 have i:=p.get a.d (by simp);have t:=aj a.d;have f:c.Yc≠some w:=fun s=>by have:=j w s;omega
 have r:ae [w] k (k.setCell ⟨w,0,none⟩ (slice c.ao x c.cap)):=(ae.refl _ _).sl1 _;subst m;exact⟨by rw[ab i];rfl,o.XX (fun q g=>r.block q (o.lt g) (by simp;intro e;exact f (by rw[<-e];exact g))),f,l⟩
theorem FI(a:Fs)(h:Hd)(on:Bool)(p2 p3 p4:Value)(E:Xu)(i:Nat)(w:World)(hR:gC w z0 H h on p2 p3 p4)(hS:oc w E i a)(hn:E=none->a.length=0/\i=0)(ha:∀B,E=some B->∃g,B=⟨g,0,none⟩)(P:∀j,j<a.length->(aG a j).size<=1073741824/\(ak a j).size<=1073741824) :
  Calls prog 32 #[pointer (some ⟨z0,0,none⟩),slice E a.length i] w fun e t=>e=returned (int i64 (dS a))/\RY w z0 h (jX H a) p2 p3 p4 (dS a) t:=by
 have HR:Xr _:=hR;by_cases h4:4<a.length
 ·have G:Xr (dS a=1):=by show _=_;unfold dS;rw[TJ h4]
  rw[G.o];have an:(4:Int)<a.length:=by omega
  clear hR;go_enter func32,ntmps32;go_wp2;go_ret;exact⟨rfl,RY.stay (by decide) (ae.refl _ _)⟩
 ·have G:Xr (dS a=dd (EU a) a.length):=by show _=_;unfold dS;rw[TH h4]
  obtain⟨r,Hr⟩:=bq (dS a);rw[Hr.o]at G ⊢;have an:¬(4:Int)<a.length:=by omega
  have V:Xr _:=hS;have HN:Xr _:=hn;have X:Xr _:=ha;have K:Xr _:=P;obtain⟨iF,az,R,S,T⟩:=Ul Bp;clear hR hS hn ha P;go_enter func32,ntmps32;go_wp2
  go_loopg [5] a.length (fun g iv wr=>∃k:Nat,k<=a.length/\g=a.length-k/\iv=int i64 k/\Xr (dd (EU a) k=0)/\Xr (ae [] w wr))
  ·exact⟨0,by omega,rfl,rfl,rfl,ae.refl _ _⟩
  obtain⟨k,hk,hg,rfl,HZ,x⟩:=hrel;rcases kn k a.length with ⟨s,a1⟩ | ⟨s,-⟩
  ·have a0:(0:Int)<=(k:Int):=(by omega);have aT:=V.o.1;obtain⟨C,rfl,y,c0,c1⟩:=(oc.XR V.o x.o).2 k s;have HC:Xr (∀t,ae [] wr t->t.cell? ⟨C,k*2,none⟩=some (string (aG a k))/\t.cell? ⟨C,k*2+1,none⟩=some (string (ak a k))/\C<t.heap.size):=fun t kw=>⟨by rw[Ud (kw.block C y (by simp))];exact c0,by rw[Ud (kw.block C y (by simp))];exact c1,TP y kw.size⟩
   have z:Xr (∀v,ae [] wr v->Calls prog 36 #[slice (some ⟨C,0,none⟩) k i,string (aG a k)] v fun e t=>e=returned (int i64 (bS (a.take k) (aG a k)))/\t=v):=fun v kx=>by
    have hl:(a.take k).length=k:=(by rw[UW];omega);have:=nu (a.take k) (some ⟨C,0,none⟩) i (aG a k) v (by omega) (oc.take (oc.XR V.o (x.o.trans kx)) k hk);rw[hl]at this;exact this
   have F:Xr (∀v,Calls prog 35 #[string (aG a k),string (ak a k)] v fun e t=>e=returned (int i64 (dn (aG a k) (ak a k)))/\t=v):=fun v=>Dc _ _ v (K.o k s).1 (by have:=(K.o k s).2;omega);have l:Xr (EU a k=if(dn (aG a k) (ak a k)==0)=false then dn (aG a k) (ak a k) else if 0<=bS (a.take k) (aG a k) then 4 else 0):=rfl;have J:Xr ((EU a k==0)=false->r=EU a k):=fun q=>by rw[G.o];exact nf HZ.o q s
   have Y:Xr (EU a k=0->dd (EU a) (k+1)=0):=fun q=>by rw[dd,HZ.o];exact q
   generalize aG a k=nm at *;generalize ak a k=dt at *;obtain⟨ck,ai⟩:=bq (dn nm dt);rw[ai.o]at F l;obtain⟨fi,al⟩:=bq (bS (a.take k) nm);rw[al.o]at z l;(go_upto_region 6 with fail);go_region_with (go_at_call 35;refine(F.o _).mono ?_;rintro e U ⟨rfl,aS⟩)
   all_goals
    subst aS;obtain⟨U,H9⟩:=bq (wr.drew);rw[H9.o];have f:Xr (ae [] wr U):=by show ae _ _ _;rw[<-H9.o];exact(ae.refl [] wr).drew
    clear c0 c1 y;cases c:(ck==0)
    ·rw[c,TJ rfl]at l;have p:Xr _:=(J.o (by rw[l.o];exact c));rw[l.o]at p;have ax:(ck != 0)=true:=(by unfold bne;rw[c];rfl);go_wp2;go_ret;exact⟨au p.o.symm,RY.stay (by rw[p.o];exact fun q=>by rw[q]at c;cases c) (x.o.trans f.o)⟩
    ·rw[c,TH (by simp)]at l;have ax:(ck != 0)=false:=(by unfold bne;rw[c];rfl);obtain⟨d0,d1,d2⟩:=HC.o U f.o;by_cases N:0<=fi
     ·rw[TJ N]at l;have p:Xr _:=(J.o (by rw[l.o];rfl));rw[l.o]at p;(go_upto_region 9 with fail);go_region_with (go_at_call 36;refine(z.o _ (by exact f.o.drew)).mono ?_;rintro e w8 ⟨rfl,D⟩)
      all_goals
       subst D;have A:Xr (ae [] w U.drew):=(x.o.trans f.o).drew;go_wp2;go_ret;exact⟨au p.o.symm,RY.stay (by rw[p.o];decide) A.o⟩
     ·rw[TH N]at l;have HM:Xr _:=Y.o l.o;(go_upto_region 9 with fail);go_region_with (go_at_call 36;refine(z.o _ (by exact f.o.drew)).mono ?_;rintro e w8 ⟨rfl,D⟩)
      all_goals
       subst D;have A:Xr (ae [] w U.drew):=(x.o.trans f.o).drew;go_wp2;go_roundg (a.length-(k+1))
       ·exact⟨k+1,by omega,rfl,by go_num,HM,A⟩
       omega
  ·have e:k=a.length:=(by omega);subst e;have p:Xr (r=0):=cg (by rw[G.o];exact HZ.o);have a2:¬(a.length:Int)<a.length:=by omega
   have I:Xr _:=HR.o.XR x.o;have ar:aB wr ⟨none,0⟩ (cW []):=TQ _ _ _ _;have af:Xr _:=oc.XR V.o x.o;have av:Xr (∀B,E=some B->∀j u,(rT a)[j]?=some u->wr.cell? (B.add j)=some u):=fun B e j u hu=>by
    obtain⟨g,rfl⟩:=X.o B e;rw[bX];exact MO (by rw[<-e];exact af.o) j u hu
   have ap:Xr ((cW ([]:Fs)).n+a.length<=1000000000):=(by show 0+a.length<=_;omega);have ac:Xr (∀m:Nat,(cW ([]:Fs)).n+m=m):=fun m=>VI m;(go_upto_region 12 with fail);go_wp2_with (at_builtin;refine fg _ rfl (.const (slice none 0 0)) (.tmp 43) 33 rfl iF (agg #[string ⟨#[]⟩,string ⟨#[]⟩]) 32 ⟨none,0⟩ (cW []) underlying33 az R S T rfl Xo rfl ar E a.length i (rT a) rfl (wI a) HN.o av.o (Ir a) ap.o (by omega) ?_;intro h5 w5 Q O;have K5:ae [] wr w5:=(O.Yb.mono (by simp[Hd.Yc]));have L:=K5.get I.o.d (by simp);have v0:w5.cell? ⟨z0,0,none⟩=some (slice h.ao H.length h.cap):=(by rw[ah L];rfl);have v1:w5.cell? ⟨z0,1,none⟩=some (bool on):=(by rw[ah L];rfl);have e0:=am L 0;have e1:=am L 1;have vz:=aj L);go_ret;have er:(⟨(cW []).e,(cW []).size,(cW []).n+a.length,(cW []).xs++rT a⟩:eQ)=cW a:=by
    show eQ.mk _ _ (0+a.length) ([]++rT a)=_;rw[VI];rfl
   rw[er]at Q;have M:∀q,h5.Yc=some q->wr.heap.size<=q:=by
    intro q W;rcases O.Yc with e | ⟨g,e,hg⟩
    ·rw[e]at W;cases W
    ·rw[e]at W;cases W;exact hg
   have Z:=(I.o.newRow K5 Q M (by omega) (ac.o a.length)).off;have ag:Xr _:=z9 (fs0:=H) (Hr.o.trans p.o);exact⟨au p.o.symm,by rw[ag.o];exact⟨fun _=>⟨h5,Z,(((x.o.trans K5).mono (by simp)).sl1 _).sl1 _,fun b hb=>TU (TV x.o.size (M b hb))⟩,fun q=>absurd p.o q⟩⟩
end Go.Proofs.YtnbhnocdhbcbcaaGreat

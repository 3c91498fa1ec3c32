import Derived.Test.YtnbhnocdhbcbcaaGreatK02
import Derived.Test.YtnbhnocdhbcbcaaGreatK22
import Derived.Test.YtnbhnocdhbcbcaaGreatK25
namespace Go.Proofs.YtnbhnocdhbcbcaaGreat
open Go.RowKit Tryz
open Value IntKind Ending
set_option maxHeartbeats 0
variable{i z4:Xs}{w x u t y5 y6:Nat}{z1:Xt}{y:List Tk}{z6:Tk}{o:List Sm}{n k:World}{p y0:Xu}{z7:Xv}{I M N z5 y7 y9:Value}{d:Fs}{D c:Hd}{z2:Bool}(z0:Nat)(H:Fs)(g L:Xs)(v l:Nat)(b:List Tk)(z3:Nat->List Bool->List Tk->List Tk×List Bool)
theorem cC{l m:List UInt8}(h:(i.toList==l)=true):(i.toList==m)=(l==m):=by
 have:i.toList=l:=by simpa using h
 rw[this]
section
variable {T:List Tk} {S:List Sm} {f:Nat}
structure tE(T:List Tk)(S:List Sm)(j:Nat):Prop where
 le:(aq S j).h<=(aq S j).z-1
 zt:(aq S j).z<=T.length
 pos:0<(aq S j).z
 dot:((tS T ((aq S j).z-1)).toList == [36,46])=true
 cl:ja (aq S j).k (eG T (aq S j).h ((aq S j).z-1))=0
 w:∀q,(aq S j).h<=q->q<(aq S j).z-1->mI T S (aq S j).k (tS T q) j (eG T (aq S j).h q)=0/\ce (tS T q)=false
theorem ly(p:Cw T T.length S f)(c:∀q,q<T.length->aY T S q=0)(j:Nat)(h:j<S.length)(u:ce (aq S j).k=false):tE T S j:=by
 have t:=Co p j h;obtain⟨P,o⟩:=p.s j h;have b:(aq S j).h<=(aq S j).z-1->(aq S j).a<(aq S j).h->tE T S j:=fun l A=>by
  have B:=P.lt;have r:=c ((aq S j).z-1) (by omega);rw[t ((aq S j).z-1) (by omega) (by omega),Tp (by omega),Tp (by omega)]at r;obtain⟨v,w⟩:=yq P.e r;refine⟨l,o,by omega,v,w,fun q F y=>?_⟩;have Q:=c q (by omega);rw[t q (by omega) (by omega),Tp (by omega),Tp (by omega)]at Q;exact⟨Q,P.n q (by omega) y⟩
 have d:=P.k;have G:=P.lt;unfold eu at d;by_cases g:(ij (tS T (aq S j).a) ⟨#[36]⟩||decide (T.length<=(aq S j).a+1))=true
 ·rw[Tr g]at d;have i:(aq S j).k=tS T (aq S j).a:=congrArg Prod.fst d;have x:(aq S j).h=(aq S j).a+1:=congrArg Prod.snd d;refine b ?_ (by omega);by_cases C:(aq S j).z-1=(aq S j).a
  ·have:=P.e;rw[C,<-i,u]at this;cases this
  ·omega
 ·rw[Tp g]at d;have i:(aq S j).k=tS T ((aq S j).a+1):=congrArg Prod.fst d;have x:(aq S j).h=(aq S j).a+2:=congrArg Prod.snd d;have m:ij (tS T (aq S j).a) ⟨#[36]⟩=false:=by
   cases e:ij (tS T (aq S j).a) ⟨#[36]⟩
   ·rfl
   ·rw[e]at g;exact absurd rfl g
  refine b ?_ (by omega);have D:(aq S j).z-1≠(aq S j).a:=fun e=>by
   have:=(lz P.e).1;rw[e,m]at this;cases this
  have E:(aq S j).z-1≠(aq S j).a+1:=fun e=>by
   have:=P.e;rw[e,<-i,u]at this;cases this
  omega
theorem tI(T:List Tk)(h i q:Nat)(a:h+q<i)(b:i<=T.length):(eG T h i).getD q ⟨#[]⟩=tS T (h+q):=by
 unfold eG tS;rw[To,Ua,VX,Tr (by omega),Vz,To];rw[Tn (by omega)];rfl
theorem nH(T:List Tk)(h i:Nat)(a:h<=i)(b:i<=T.length):(eG T h i).length=i-h:=by
 unfold eG;rw[TT,UJ,Ux];omega
theorem uD(P:tE T S w):bB T (aq S w).h=(eG T (aq S w).h ((aq S w).z-1)).takeWhile jz:=by
 have i:=P.zt;have g:=P.pos;have c:=P.le;unfold bB;have e:T.drop (aq S w).h=(T.drop (aq S w).h).take ((aq S w).z-1-(aq S w).h)++(T.getD ((aq S w).z-1) gU) :: T.drop (aq S w).z:=by
  conv=>lhs;rw[<-List.take_append_drop ((aq S w).z-1-(aq S w).h) (T.drop (aq S w).h)]
  rw[List.drop_drop,show(aq S w).h+((aq S w).z-1-(aq S w).h)=(aq S w).z-1 by omega,If T ((aq S w).z-1) (by omega),show(aq S w).z-1+1=(aq S w).z by omega]
 rw[e,show ∀(L:List Tk) (t:Tk) (M:List Tk),L++t :: M=(L++[t])++M from fun L t M=>by simp,zI]
 ·rw[tJ _ _ (fun u f=>?_) P.dot]
  ·rfl
  ·obtain⟨q,d,a⟩:=Uy f;rw[UJ,Ux]at d;have:=(P.w ((aq S w).h+q) (by omega) (by omega)).2;unfold ce at this;simp only[Bool.or_eq_false_iff]at this;have b:u.s=tS T ((aq S w).h+q):=by
    rw[<-a,List.getElem_take,Wa];unfold tS;rw[To,Tn (by omega)];rfl
   rw[b];exact this.1.1
 ·exact⟨T.getD ((aq S w).z-1) gU,by simp,uE P.dot⟩
theorem vF(P:tE T S w):dV T (aq S w).h:=⟨(aq S w).z-1,P.le,by have:=P.zt;have:=P.pos;omega,uE P.dot⟩
theorem wR(h:mI T S i z4 w z1=0)(a:(z4.toList == [36,61])=true):(i.toList == [36,112])=true/\aK z1 ⟨#[36,61]⟩=false/\z1.length≠0:=by
 unfold mI at h;rw[cC a (m:=[36,46]),Tp (by decide),a,U6]at h;cases b:(i.toList == [36,112])
 ·rw[b,Vs,Tp (by simp),Tr (by rw[qI a];decide +kernel)]at h;cases h
 ·cases c:aK z1 ⟨#[36,61]⟩
  ·rw[b,c]at h;by_cases d:z1.length=0
   ·rw[Tr (by rfl),Tr d]at h;cases h
   ·exact⟨rfl,rfl,d⟩
  ·rw[b,c,Tp (by decide),Tr (by rw[qI a];decide +kernel)]at h;cases h
end
section
variable {T:List Tk} {S:List Sm} {f:Nat}
theorem AZ(T:List Tk)(h:Nat):eG T h h=[]:=by unfold eG;rw[Uz];simp
theorem wV(P:tE T S w):0<(eG T (aq S w).h ((aq S w).z-1)).length/\(((aq S w).k.toList == [36,102])=true->1<(eG T (aq S w).h ((aq S w).z-1)).length):=by
 have a:=P.cl;unfold ja at a;split at a
 ·cases a
 ·next e =>
  split at a
  ·cases a
  ·next b =>
   refine⟨by omega,fun c=>?_⟩;have:¬(eG T (aq S w).h ((aq S w).z-1)).length<2:=fun d=>b (by rw[c];simp[d]);omega
theorem wF(c:w<=x)(a:x<=T.length)(f:aK (eG T w x) i=true):∃q,w<=q/\q<x/\tS T q=i:=by
 unfold aK at f;obtain⟨y,k,e⟩:=Ut.1 f;obtain⟨q,d,g⟩:=Uy k;rw[nH T w x c a]at d;refine⟨w+q,by omega,by omega,?_⟩;have b:=tI T w x q (by omega) a;rw[To,Tn (by rw[nH T w x c a];exact d)]at b;have j:(eG T w x)[q]=tS T (w+q):=b;rw[<-j,g];have:y.toList=i.toList:=by simpa using e
 apply Xh;apply Wg.1;rw[<-Uo,<-Uo,this]
theorem vE(P:tE T S w)(d:((aq S w).k.toList == [36,112])=false):bB T (aq S w).h=eG T (aq S w).h ((aq S w).z-1):=by
 rw[uD P];refine tZ _ ?_;cases e:aK (eG T (aq S w).h ((aq S w).z-1)) ⟨#[36,61]⟩
 ·rfl
 ·have i:=P.zt;have g:=P.pos;obtain⟨q,b,c,a⟩:=wF P.le (by omega) e;have f:=(P.w q b c).1;have:=(wR f (by rw[a];decide +kernel)).1;rw[d]at this;cases this
theorem vD(P:tE T S w):((tS T (aq S w).h).toList == [36,61])=false/\(aq S w).h<(aq S w).z-1:=by
 have b:=(wV P).1;have f:=P.zt;have d:=P.pos;rw[nH T _ _ P.le (by omega)]at b;have a:(aq S w).h<(aq S w).z-1:=by omega
 refine⟨?_,a⟩;cases e:((tS T (aq S w).h).toList == [36,61])
 ·rfl
 ·have c:=(P.w _ (Tq _) a).1;have:=(wR c e).2.2;rw[AZ]at this;exact absurd rfl this
theorem Aw(P:tE T S w):0<(bB T (aq S w).h).length/\(bB T (aq S w).h).getD 0 ⟨#[]⟩=tS T (aq S w).h:=by
 obtain⟨b,f⟩:=vD P;have g:=P.zt;have a:=tI T (aq S w).h ((aq S w).z-1) 0 (by omega) (by omega);have c:=(wV P).1;rw[uD P];rw[Ve]at a;generalize eG T (aq S w).h ((aq S w).z-1)=B at *;cases B with
 | nil=>simp at c
 | cons x B =>
  have e:x=tS T (aq S w).h:=a;have d:jz x=true:=by unfold jz;rw[e,b];rfl
  rw[Vc d];exact⟨by simp,e⟩
theorem QE(p:Cw T T.length S f)(b:∀q,q<T.length->aY T S q=0)(n:Nat)(i:n<=S.length):LS T S n:=fun j g c=>by
 have a:ce (aq S j).k=false:=by
  unfold aA aH at c;simp only[Bool.or_eq_true]at c;rcases c with (h | h) | (h | h) <;> exact fO h (by decide)
 have P:=ly p b j (by omega) a;refine⟨(Aw P).1,fun e=>?_⟩;have d:((aq S j).k.toList == [36,112])=false:=by rw[cC e];decide
 show 1<(bB T (aq S j).h).length;rw[vE P d];exact(wV P).2 e
theorem ut(h:mI T S i z4 w z1=0)(a:ce z4=false)(d:(z4.toList == [36,61])=false)(b:aK z1 ⟨#[36,61]⟩=false):(if((i.toList == [36,99])||(i.toList == [36,118]))=true then j7 T S z4 w (i.toList == [36,99]) z1 else im T S i z4 w z1)=0:=by
 unfold mI at h;have c:(z4.toList == [36,46])=false:=by
  unfold ce at a;simp only[Bool.or_eq_false_iff]at a;exact a.1.1
 rw[c,d,b,Tp (by simp),Vs,Tp (by simp)]at h;split at h
 ·cases h
 ·exact h
theorem Et(P:tE T S w)(c:(aA (aq S w).k||aH (aq S w).k)=true):eM T S (tS T (aq S w).h) w=true:=by
 obtain⟨e,f⟩:=vD P;obtain⟨d,i⟩:=P.w _ (Tq _) f;rw[AZ]at d;have b:=ut d i e rfl;have a:(((aq S w).k.toList == [36,99])||((aq S w).k.toList == [36,118]))=false/\((aq S w).k.toList == [36,100])=false:=by
  unfold aA aH at c;simp only[Bool.or_eq_true]at c;rcases c with (h | h) | (h | h) <;> (rw[cC h,cC h,cC h];decide)
 rw[a.1,Tp (by simp)]at b;unfold im at b;rw[a.2,Tp (by simp),Tr (by rfl)]at b;cases g:eM T S (tS T (aq S w).h) w
 ·rw[g,Tr rfl]at b;cases b
 ·rfl
theorem MJ(P:tE T S w)(a:((aq S w).k.toList == [36,102])=true):iG T S (tS T ((aq S w).h+1)) w=true/\(bB T (aq S w).h).getD 1 ⟨#[]⟩=tS T ((aq S w).h+1):=by
 have l:=(wV P).2 a;have p:=P.zt;have o:=P.pos;rw[nH T _ _ P.le (by omega)]at l;have b:((aq S w).k.toList == [36,112])=false:=by rw[cC a];decide
 have j:=tI T (aq S w).h ((aq S w).z-1) 1 (by omega) (by omega);refine⟨?_,by rw[vE P b];exact j⟩;obtain⟨f,i⟩:=P.w ((aq S w).h+1) (by omega) (by omega);have m:((tS T ((aq S w).h+1)).toList == [36,61])=false:=by
  cases e:((tS T ((aq S w).h+1)).toList == [36,61])
  ·rfl
  ·have:=(wR f e).1;rw[b]at this;cases this
 have d:eG T (aq S w).h ((aq S w).h+1)=[tS T (aq S w).h]:=by
  have:=CF T (aq S w).h (aq S w).h (Tq _) (by omega);rw[AZ]at this;exact this
 have g:aK (eG T (aq S w).h ((aq S w).h+1)) ⟨#[36,61]⟩=false:=by
  rw[d,sO];have e:(⟨#[36,61]⟩:Xs).toList=[36,61]:=by decide +kernel
  rw[e];exact(vD P).1
 have c:=ut f i m g;rw[cC a,cC a,Tp (by decide)]at c;unfold im at c;rw[d,cC a,Tp (by decide),Tp (by simp),a,Tr rfl,Tp (by simp)]at c;cases n:iG T S (tS T ((aq S w).h+1)) w
 ·rw[n,Tr rfl]at c;cases c
 ·rfl
theorem mD(p:Cw T T.length S f)(n:∀q,q<T.length->aY T S q=0)(hi:w<=S.length)(hk:x<=S.length)(s:eM T S i w=true)(t:iG T S i x=true):False:=by
 unfold eM jG at s;unfold iG jG at t;obtain⟨j,u,v⟩:=Ut.1 s;obtain⟨m,I,y⟩:=Ut.1 t;have u:=TG.1 u;have I:=TG.1 I;unfold oQ at v y;rw[oY.1,TN,TN]at v;rw[oY.2,TN,TN]at y;obtain⟨l,G,-⟩:=v;obtain⟨F,L,-⟩:=y;have c:∀(j:Nat),j<S.length->(((aq S j).k.toList == [36,99])=true∨((aq S j).k.toList == [36,118])=true)->aK (bB T (aq S j).h) i=true->∃B,j7 T S i j ((aq S j).k.toList == [36,99]) B=0:=fun j u a H=>by
  have d:ce (aq S j).k=false:=by rcases a with h | h <;> exact fO h (by decide)
  have P:=ly p n j u d;have o:((aq S j).k.toList == [36,112])=false:=by rcases a with h | h <;> (rw[cC h];decide)
  rw[vE P o]at H;have hz:=P.zt;have Y:=P.pos;obtain⟨q,E,K,e⟩:=wF P.le (by omega) H;obtain⟨W,V⟩:=P.w q E K;have b:∀q,(aq S j).h<=q->q<(aq S j).z-1->((tS T q).toList == [36,61])=false:=fun q s t=>by
   cases e:((tS T q).toList == [36,61])
   ·rfl
   ·have:=(wR (P.w q s t).1 e).1;rw[o]at this;cases this
  have Q:aK (eG T (aq S j).h q) ⟨#[36,61]⟩=false:=by
   cases O:aK (eG T (aq S j).h q) ⟨#[36,61]⟩
   ·rfl
   ·obtain⟨Z,M,a2,N⟩:=wF E (by omega) O;have:=b Z M (by omega);rw[N]at this;exact absurd this (by decide +kernel)
  have J:=ut W V (b q E K) Q;rw[Tr (by rcases a with h | h <;> rw[h] <;> simp),e]at J;exact⟨_,J⟩
 obtain⟨B1,g⟩:=c j (by omega) (TH l) G;obtain⟨B2,k⟩:=c m (by omega) (TE F) L;have r:((aq S m).k.toList == [36,99])=false:=by rw[cC F];decide
 rw[l]at g;rw[r]at k;unfold j7 at g k;rcases Wx j m with D | A | C
 ·have R:eM T S i m=true:=by
   unfold eM jG;exact nc j D (by unfold oQ;rw[oY.1,l,G];simp)
  rw[R]at k;split at k
  ·cases k
  ·simp at k
 ·rw[A,r]at l;cases l
 ·have U:jG T S ⟨#[36,118]⟩ i j false=true:=by
   unfold jG;exact nc m C (by unfold oQ;rw[oY.2,F,L];simp)
  have X:jM T S i j=true:=by unfold jM;rw[U];simp
  rw[X]at g;split at g
  ·cases g
  ·simp at g
theorem Sp(p:Cw T T.length S f)(a:∀q,q<T.length->aY T S q=0)(n:Nat)(A:n<=S.length):QQ T S n:=fun r B g=>by
 have P:=ly p a r (by omega) (by unfold aA at g;rcases Ul _ _ ▸ g with h | h <;> exact fO h (by decide));have w:=Et P (by rw[g];rfl);have s:(bb T S r).getD 0 ⟨#[]⟩=tS T (aq S r).h:=(Aw P).2;rw[s];cases e:aK (bL T S (a9 T S r) (a9 T S r).length) (tS T (aq S r).h)
 ·rfl
 ·exfalso
  unfold aK at e;obtain⟨y,l,d⟩:=Ut.1 e;unfold bL at l;obtain⟨i,k,rfl⟩:=UG.1 l;unfold s9 at k;obtain⟨b,c⟩:=Uk.1 k;have b:=TG.1 b;have v:(a9 T S r).getD i 0=(a9 T S r)[i]:=by rw[To,Tn b];rfl
  unfold so at c;rw[v]at c d;have z:=qF T S r (a9 T S r)[i] (TP b);generalize (a9 T S r)[i]=j at *;have o:=ly p a j (by omega) (fO c (by decide));obtain⟨m,x⟩:=MJ o c;have t:bb T S j=bB T (aq S j).h:=rfl;rw[t,x]at d;have u:tS T ((aq S j).h+1)=tS T (aq S r).h:=by
   have:(tS T ((aq S j).h+1)).toList=(tS T (aq S r).h).toList:=(by simpa using d);apply Xh;apply Wg.1;rw[<-Uo,<-Uo,this]
  rw[u]at m;exact mD p a (by omega) (by omega) w m
end
theorem OE(d:b.length<=10000)(a:∀q,q<b.length->aY b (aa b) q=0)(n:Nat)(g:n<=(aa b).length):pA b (aa b) n:=by
 have p:=dO b;have k:(aa b).length<=b.length:=pK b b.length;obtain⟨i,c⟩:=BE b (by omega) a;have h:pA b (aa b) (aa b).length:=⟨i,by omega,d,fun j e f=>vF (ly p a j e f),c⟩;exact h.mono g
def G8(S:List Sm)(a r:Nat):Prop:=r<a/\(aA (aq S r).k||aH (aq S r).k)=true
structure QP(T:List Tk)(S:List Sm)(a i:Nat)(s:dj):Prop where
 nd:s.need<=10000
 XP:s.ref=-1∨(s.ref=-2/\s.back<i)∨∃r,G8 S a r/\s.ref=(r:Nat)/\s.need=gN T S (r:Nat)
def ob(T:List Tk)(S:List Sm)(a:Nat)(P:List dj):Prop:=∀i,i<P.length->QP T S a i (bN P i)
section
variable {T:List Tk} {S:List Sm} {a:Nat}
theorem ob.snoc{P:List dj}{s:dj}(h:ob T S a P)(f:QP T S a P.length s):ob T S a (P++[s]):=fun i d=>by
 rw[Tv,Uj,Uq]at d;by_cases e:i<P.length
 ·have b:bN (P++[s]) i=bN P i:=by unfold bN;rw[To,To,TQ e]
  rw[b];exact h i e
 ·have c:i=P.length:=by omega
  have b:bN (P++[s]) i=s:=by unfold bN;rw[c,To,TJ (Tq _),Uz];rfl
  rw[b,c];exact f
theorem ob.nil:ob T S a []:=fun i b=>by simp at b
theorem DC(b:a<=10000)(c:w<a):gN T S (w:Nat)<=10000:=by
 unfold gN;split
 ·omega
 ·split
  ·have:=nz T S (w:Int).toNat;rw[Ur]at this ⊢;omega
  ·omega
theorem AA(h:dY T S a i=(w:Int)):G8 S a w:=by
 have d:=rh T S a i;rw[h]at d;rcases d with e | ⟨q,l,e⟩
 ·omega
 ·have f:w=q:=by omega
  subst f;refine⟨l,?_⟩;unfold dY at h;split at h
  ·omega
  ·split at h
   ·unfold bC at h;cases c:(List.range a).find? (mP T S i) with
    | none=>rw[c]at h;simp at h
    | some j =>
     rw[c]at h;have g:j=w:=by have h:(j:Int)=(w:Int):=h;omega
     have b:=Vh c;rw[g]at b;unfold mP at b;rw[TN]at b;cases k:(aA (aq S w).k||aH (aq S w).k)
     ·exfalso
      have:bS T (aq S w)=⟨#[]⟩:=(by unfold bS;rw[k,Tp (by simp)]);rw[this]at b;exact absurd b.1 (by decide +kernel)
     ·rfl
   ·omega
theorem MH(m:a<=10000)(e:Nat)(n:Nat):∀i P,ob T S a P->ob T S a (mt T S a e n i P).st/\((mt T S a e n i P).why=0->0<(mt T S a e n i P).st.length)/\(mt T S a e n i P).st.length<=P.length+n:=by
 induction n with
 | zero =>
  intro i P d;rw[mt];split
  ·exact⟨ob.nil,fun h=>(by cases h),Uc _⟩
  ·exact⟨d,fun _=>(by simp only;omega),(by simp)⟩
 | succ n l =>
  intro i P d;rw[mt];split
  ·obtain⟨b,c,f⟩:=l (i+1) _ (d.snoc (s:=⟨-1,0,0,(T.getD i gU).XZ,(T.getD i gU).X0,(T.getD i gU).X3⟩) ⟨by show 0<=10000;omega,TH rfl⟩);exact⟨b,c,by simp at f ⊢;omega⟩
  ·split
   ·exact⟨ob.nil,fun h=>(by cases h),Uc _⟩
   ·next b c =>
    obtain⟨k,g⟩:∃k:Nat,dY T S a (tS T i)=k:=⟨(dY T S a (tS T i)).toNat,by omega⟩
    have j:=AA g;rw[g];obtain⟨b,c,f⟩:=l (i+1) _ (d.snoc (s:=⟨(k:Int),0,gN T S (k:Int),(T.getD i gU).XZ,(T.getD i gU).X0,(T.getD i gU).X3⟩) ⟨DC m j.1,TE (TE ⟨k,j,rfl,rfl⟩)⟩);exact⟨b,c,by simp at f ⊢;omega⟩
theorem Ob(A:a<=10000)(d:Xv)(n:∀r∈d,G8 S a r)(v:Lt)(L:List Lt):∀P b f g,ob T S a P->(∀t∈b,t<P.length)->(g=true->0<P.length) ->
  ob T S a (mL T S d v L P b f g).st/\((mL T S d v L P b f g).why=0->0<(mL T S d v L P b f g).st.length)/\(mL T S d v L P b f g).st.length<=P.length+L.length:=by
 induction L with
 | nil =>
  intro P b f g o _ _;rw[mL];split
  ·exact⟨ob.nil,fun h=>(by cases h),Uc _⟩
  ·split
   ·exact⟨ob.nil,fun h=>(by cases h),Uc _⟩
   ·exact⟨o,fun _=>(by simp only;omega),(by simp)⟩
 | cons l L w =>
  intro P b f g o p z;rw[mL];split
  ·obtain⟨i,j,k⟩:=w P b (f++wH l.c) false o p (fun h=>by cases h);exact⟨i,j,by simp at k ⊢;omega⟩
  ·split
   ·split
    ·exact⟨ob.nil,fun h=>(by cases h),Uc _⟩
    ·next y =>
     have B:=Ae (f++wH l.c) (d.length+b.length);generalize gx (f++wH l.c) (d.length+b.length)=m at *;have D:QP T S a P.length (pQ T S d b m l):=by
      unfold pQ;split
      ·next C =>
       have q:m-1<d.length:=(by omega);have e:d.getD (m-1) 0=d[m-1]:=(by rw[To,Tn q];rfl);have x:=n d[m-1] (TP q);rw[e];exact⟨DC A x.1,TE (TE ⟨_,x,rfl,rfl⟩)⟩
      ·next C =>
       have q:m-d.length-1<b.length:=(by omega);have e:b.getD (m-d.length-1) 0=b[m-d.length-1]:=(by rw[To,Tn q];rfl);rw[e];exact⟨by show 0<=10000;omega,TE (TH ⟨rfl,p _ (TP q)⟩)⟩
     obtain⟨i,j,k⟩:=w _ b ⟨#[]⟩ true (o.snoc D) (fun t u=>by rw[Tv];have:=p t u;omega) (fun _=>by simp);exact⟨i,j,by simp at k ⊢;omega⟩
   ·split
    ·next y =>
     have E:=z y.2
     obtain⟨i,j,k⟩:=w P (b++[P.length-1]) f false o (fun t u=>by
      rcases Ug.1 u with h | h
      ·exact p t h
      ·rw[TI.1 h];omega) (fun h=>by cases h)
     exact⟨i,j,by simp at k ⊢;omega⟩
    ·split
     ·obtain⟨i,j,k⟩:=w _ b f false (o.snoc (s:=⟨-1,0,0,l.XZ,l.X0,l.X3⟩) ⟨by show 0<=10000;omega,TH rfl⟩) (fun t u=>by rw[Tv];have:=p t u;omega) (fun h=>by cases h);exact⟨i,j,by simp at k ⊢;omega⟩
     ·exact⟨ob.nil,fun h=>(by cases h),Uc _⟩
theorem PT(o:a<=10000)(m:fw T)(c:Nat)(n:Nat):∀i b,(∀r∈b,G8 S a r)->ob T S a (rV T S a c n i b).st/\((rV T S a c n i b).why=0->0<(rV T S a c n i b).st.length)/\(rV T S a c n i b).st.length<=1024*T.length:=by
 induction n with
 | zero=>intro i b _;rw[rV];exact⟨ob.nil,fun h=>(by cases h),Uc _⟩
 | succ n q =>
  intro i b l;rw[rV];split
  ·obtain⟨e,f,g⟩:=Ob (T:=T) o b l (EO (T.getD c gU)) (eQ T (i+1) c) [] [] ⟨#[]⟩ false ob.nil (fun t p=>by cases p) (fun h=>by cases h);have:=yI T m (i+1) c;rw[Uq,Vr]at g;exact⟨e,f,by unfold j8;omega⟩
  ·split
   ·exact⟨ob.nil,fun h=>(by cases h),Uc _⟩
   ·split
    ·exact⟨ob.nil,fun h=>(by cases h),Uc _⟩
    ·next e f g =>
     obtain⟨k,j⟩:∃k:Nat,dY T S a (tS T i)=k:=⟨(dY T S a (tS T i)).toNat,by omega⟩
     refine q (i+1) _ (fun r d=>?_);rcases Ug.1 d with h | h
     ·exact l r h
     ·rw[TI.1 h,j,Ur];exact AA j
theorem sJ(g:a<=10000)(i:fw T)(m:T.length<=10000)(e b:Nat)(n:b<=T.length):ob T S a (fC T S a e b).st/\((fC T S a e b).why=0->0<(fC T S a e b).st.length)/\(fC T S a e b).st.length<=100000000:=by
 unfold fC;split
 ·unfold jS
  obtain⟨c,d,f⟩:=PT (T:=T) (S:=S) g i b (b-(e+2)) (e+2) (a9 T S a) (fun r j=>by
   obtain⟨k,-,l⟩:=zX T S a r j;exact⟨k,by rw[l];simp⟩)
  exact⟨c,d,by omega⟩
 ·obtain⟨c,d,f⟩:=MH (T:=T) (S:=S) g b (b-(e+1)) (e+1) [] ob.nil;exact⟨c,d,by simp at f;omega⟩
theorem JF(n:a<=10000)(l:fw T)(m:T.length<=10000)(e b:Nat)(q:b<=T.length):LX T S a (fC T S a e b):=by
 obtain⟨g,s,t⟩:=sJ (T:=T) (S:=S) n l m e b q;refine⟨t,fun i=>?_,fun h=>⟨s h,fun i c d=>⟨?_⟩⟩⟩
 ·by_cases c:i<(fC T S a e b).st.length
  ·have:=(g i c).nd;omega
  ·have:bN (fC T S a e b).st i=So:=(by unfold bN;rw[To,Un (by omega)];rfl);rw[this];show 0<=100000;omega
 ·rcases(g i c).XP with h | ⟨h,o⟩ | ⟨r,f,j,k⟩
  ·exact absurd h d
  ·exact TH ⟨h,o⟩
  ·refine TE ⟨r,f.1,j,f.2,fun p=>?_⟩;rw[k];unfold gN;rw[Tp (by omega),Ur,Tr p]
end
def ze(t:Tk):Prop:=t.s.size<=1024/\0<=t.X3/\t.X3<=10000
theorem Bj:fw []:=fun t a=>by cases a
theorem nh{M:List Tk}(h:fw y)(k:fw M):fw (y++M):=fun t a=>by
 rcases Ug.1 a with e | e
 ·exact h t e
 ·exact k t e
theorem me(h:ze z6):fw [z6]:=fun u a=>by rw[TI.1 a];exact h
theorem tX(r:Int)(h:ze z6):ze (rZ z6 r):=⟨by show(0:Nat)<=1024;omega,h.2⟩
theorem Cd(s:Xs)(r:Int)(k:Nat)(a:s.size<=1024)(b:k<=1024):ze (na g L s r k):=by
 have:=Be L k;exact⟨a,by show 0<=bJ L k;omega,by show bJ L k<=10000;omega⟩
theorem EI(a:fw b)(c:v<=l)(d:l<=1024):fw (jO g L v l b):=by
 unfold jO;split
 ·exact a
 ·exact nh a (me (Cd g L _ 0 v (by rw[VY];omega) (by omega)))
theorem EF(i:Nat)(b:i<=1024):fw (jN g L i):=by
 induction i with
 | zero=>exact Bj
 | succ i a =>
  rw[jN];split
  ·exact EI g L _ i _ (a (by omega)) (pq L i) (by omega)
  ·exact a (by omega)
theorem LN(a:L.size<=1024):fw (iY g L):=by
 unfold iY;split
 ·next i h =>
  have b:i<L.size:=TG.1 (Us h);exact nh (EF g L i (by omega)) (me (Cd g L _ 1 i (by show(0:Nat)<=1024;omega) (by omega)))
 ·exact nh (EI g L _ _ _ (EF g L _ a) (pq L _) a) (me (Cd g L _ 0 _ (by show(0:Nat)<=1024;omega) a))
theorem xH(h:ze z6)(k:fw y):fw (z6 :: y):=fun u a=>by
 rcases Ub.1 a with e | e
 ·rw[e];exact h
 ·exact k u e
theorem Mo(b:Bool)(L:List Tk)(h:fw L):fw (b7 b L):=by
 induction L generalizing b with
 | nil=>cases b <;> exact Bj
 | cons t L c =>
  have d:ze t:=h t (Ue ..);have a:fw L:=fun u f=>h u (Ud _ f);have e:∀r,ze ⟨⟨#[]⟩,r,t.XZ,t.X0,t.X3⟩:=fun r=>⟨by show(0:Nat)<=1024;omega,d.2⟩
  cases b
  ·rw[b7];split
   ·exact c true a
   ·exact xH d (c false a)
  ·rw[b7];split
   ·exact xH d (c true a)
   ·split
    ·exact c false a
    ·split
     ·exact xH (e 3) (c true a)
     ·split
      ·exact me (e 2)
      ·exact c true a
theorem KJ(f:∀k e c,fw c->fw (z3 k e c).1)(w:Fs)(n:Nat):∀L,L.length<=n->fw L->∀e c,fw c->fw (da z3 w L e c).1:=by
 induction n with
 | zero =>
  intro L m _ e c d;cases L with
  | nil=>rw[da];exact d
  | cons _ _=>simp at m
 | succ n q =>
  intro L m s e c d;cases L with
  | nil=>rw[da];exact d
  | cons t r =>
   have o:ze t:=s t (Ue ..);have l:fw r:=fun u p=>s u (Ud _ p);have g:r.length<=n:=(by simpa using m);rw[da.eq_def];simp only;split
   ·split
    ·exact d
    ·exact nh d (me (tX 7 o))
   ·split
    ·exact q r g l e _ (nh d (me o))
    ·split
     ·exact nh d (me (tX 4 o))
     ·cases r with
      | nil=>exact d
      | cons a r =>
       have v:ze a:=l a (Ue ..);cases r with
       | nil=>exact nh d (me (tX _ v))
       | cons b r =>
        have x:ze b:=l b (Ud _ (Ue ..));have j:fw r:=fun u p=>l u (Ud _ (Ud _ p));have i:r.length<=n:=(by simp at g;omega);simp only;split
        ·exact nh d (me (tX _ v))
        ·split
         ·exact nh d (me (tX _ x))
         ·split
          ·exact q r i j e c d
          ·split
           ·exact f _ e c d
           ·exact q r i j _ _ (f _ e c d)
theorem KO(b:∀k,(ak H k).size<=1024)(n:Nat):∀k d a,fw a->fw (eU H n k d a).1:=by
 induction n with
 | zero=>intro k d a c;exact c
 | succ n e =>
  intro k d a c;rw[eU];exact KJ _ e H _ _ (Tq _) (Mo _ _ (LN _ _ (b k))) _ _ c
theorem C8(a:∀l,(ak H l).size<=1024):fw (cN H l).1:=by
 have h:fw (qq H l):=KO H a _ _ _ _ Bj;unfold cN;split
 ·exact fun t b=>h t (WJ _ b)
 ·exact h
def zl(T:List Tk)(S:List Sm)(j:Nat):Nat:=(aq S j).h+(bB T (aq S j).h).length
theorem Sq(p:Xs->Bool)(L:Xt)(h:∃x∈L,p x=false):(L.takeWhile p).length<L.length/\p (L.getD (L.takeWhile p).length ⟨#[]⟩)=false/\∀q,q<(L.takeWhile p).length->p (L.getD q ⟨#[]⟩)=true:=by
 induction L with
 | nil=>obtain⟨x,f,-⟩:=h;cases f
 | cons a L j =>
  cases b:p a
  ·rw[List.takeWhile_cons,Tp (by rw[b];simp)];exact⟨by simp,b,fun q d=>by simp at d⟩
  ·rw[List.takeWhile_cons,Tr b]
   obtain⟨k,g,i⟩:=j (by
    obtain⟨x,f,c⟩:=h;rcases Ub.1 f with e | e
    ·rw[e,b]at c;cases c
    ·exact⟨x,e,c⟩)
   refine⟨by simp;omega,g,fun q d=>?_⟩;cases q with
   | zero=>exact b
   | succ q=>exact i q (by simpa using d)
theorem Oa(P:tE y o w)(m:((aq o w).k.toList == [36,112])=true) :
  (aq o w).h<=zl y o w/\((tS y (zl y o w)).toList == [36,61])=true/\(∀q,(aq o w).h<=q->q<zl y o w->((tS y q).toList == [36,61])=false)/\zl y o w<(aq o w).z-1:=by
 have s:=P.zt;have r:=P.pos;have d:=P.le;have a:=P.cl;have n:=nH y (aq o w).h ((aq o w).z-1) d (by omega);have l:aK (eG y (aq o w).h ((aq o w).z-1)) ⟨#[36,61]⟩=true:=by
  unfold ja at a;split at a
  ·cases a
  ·split at a
   ·cases a
   ·cases e:aK (eG y (aq o w).h ((aq o w).z-1)) ⟨#[36,61]⟩
    ·rw[m,e,Tr (by decide)]at a;cases a
    ·rfl
 obtain⟨i,p,j⟩:=Ut.1 l;have c:∃x∈eG y (aq o w).h ((aq o w).z-1),jz x=false:=by
  refine⟨i,p,?_⟩;unfold jz;have e:i.toList=(⟨#[36,61]⟩:Xs).toList:=by simpa using j
  rw[e];decide +kernel
 obtain⟨f,b,g⟩:=Sq jz _ c;rw[<-uD P]at f b g;rw[n]at f;unfold zl;refine⟨by omega,?_,fun q t u=>?_,by omega⟩
 ·rw[tI y _ _ _ (by omega) (by omega)]at b;unfold jz at b;simpa using b
 ·have:=g (q-(aq o w).h) (by omega);rw[tI y _ _ _ (by omega) (by omega),show(aq o w).h+(q-(aq o w).h)=q by omega]at this;unfold jz at this;simpa using this
def DJ(T:List Tk)(S:List Sm)(a:Nat):jP:=fC T S a (zl T S a) ((aq S a).z-1)
def Ap(T:List Tk)(S:List Sm)(a:Nat):iq:=lA T S a (DJ T S a) (T.getD ((aq S a).z-1) gU)
theorem Cy.keptS(h:Cy n p w o)(c:ae z7 n k)(m:∀g,p=some ⟨g,0,none⟩->g∉z7):Cy k p w o:=by
 refine⟨h.1,fun j t r=>?_⟩;obtain⟨g,e,b,d,f,i,l⟩:=h.2 j t r;have q:∀a,k.cell? ⟨g,a,none⟩=n.cell? ⟨g,a,none⟩:=fun a=>TO (c.block g b (m g e));exact⟨g,e,Tw b c.size,by rw[q];exact d,by rw[q];exact f,by rw[q];exact i,by rw[q];exact l⟩
theorem gy.off{A:Xu}(h:gy n w y p u o y0 t)(v:n.heap[x]?=some (.cells #[slice A y5 y6,I,M,N,z5] 85))(l:ae [x] n k):gy k w y p u o y0 t:=by
 obtain⟨z,-⟩:=od v;refine⟨l.get h.d (fun r=>?_),?_,?_⟩
 ·simp at r;subst r;have:=h.d.symm.trans v;simp at this
 ·cases q:y with
  | nil=>rw[q]at h;exact⟨h.t.1,fun j c i=>by simp at i⟩
  | cons c L =>
   rw[q]at h;refine h.t.keptS l (fun g e b=>?_);simp at b;subst b;obtain⟨g,f,-,a,-⟩:=h.t.2 0 c rfl;rw[f]at e;cases e;rw[Xn]at a;rw[z]at a;cases a
 ·cases m:o with
  | nil=>rw[m]at h;exact⟨h.s.1,fun j c i=>by simp at i⟩
  | cons c L =>
   rw[m]at h;refine h.s.keptS l (fun g e b=>?_);simp at b;subst b;obtain⟨g,f,-,a,-⟩:=h.s.2 0 c rfl;rw[f]at e;cases e;rw[Xn]at a;rw[z]at a;cases a
theorem Fv(g:Xu)(y:Nat)(f:Xu)(x:Nat)(E:Xu)(n c:Nat)(D G H:Value)(w:World)(F:w.heap[v]?=some (.cells #[slice E n c,D,pointer (some ⟨l,0,none⟩),G,H] 85))(N:gy w l b g y (aa b) f x)(t:b.length<=10000)(A:fw b)(d:∀q,q<b.length->aY b (aa b) q=0) :
  Calls prog 58 #[pointer (some ⟨v,0,none⟩)] w fun e V=>LU b (aa b) v l (slice E n c) D (DJ b (aa b)) (Ap b (aa b)) w e V:=by
 have p:=dO b;have W:(aa b).length<=b.length:=pK b b.length;have s:∀m,ae [v] w m->gy m l b g y (aa b) f x:=fun m k=>N.off F k;have j:∀a,my (aa b) a=true->ce (aq (aa b) a).k=false:=fun a h=>fO h (by decide);refine Fu v l b g y (aa b) f x _ D G H _ _ w F s (by omega) (OE b t d _ (Tq _)).ok.a ?_ ?_ ?_
 ·intro a o u m C;have P:=ly p d a o (j a u);obtain⟨I,J,K,L⟩:=Oa P u;have:=P.pos;have:=P.zt;exact Fb l a (zl b (aa b) a) ((aq (aa b) a).z-1) b g y _ f x m (s m C) (OE b t d a (by omega)) o (vF P) A I J K (by omega) L (by omega) P.dot
 ·intro a o u B m C R;have P:=ly p d a o (j a u);have:=P.pos;have:=P.zt;exact Cj l a ((aq (aa b) a).z-1) b g y _ f x (DJ b (aa b) a) B m (s m C) (OE b t d a (by omega)) (QE p d a (by omega)) (Sp p d a (by omega)) o (vF P) ((OE b t d _ (Tq _)).ok.a a o) (by omega) (by omega) R (JF (by omega) A t _ _ (by omega))
 ·intro a o u;have P:=ly p d a o (j a u);have:=P.zt;obtain⟨T,-,U⟩:=sJ (T:=b) (S:=aa b) (a:=a) (by omega) A t (zl b (aa b) a) ((aq (aa b) a).z-1) (by omega);refine⟨U,fun i O=>?_⟩
  show(bN (fC b (aa b) a (zl b (aa b) a) ((aq (aa b) a).z-1)).st i).ref<=(a:Int)
  rcases(T i O).XP with h | ⟨h,-⟩ | ⟨r,Q,M,-⟩
  ·rw[h];omega
  ·rw[h];omega
  ·rw[M];have:=Q.1;omega
theorem Gb(j:∀k d c,d[k]?=some false->(z3 k d c).1.length+2000*aV (z3 k d c).2<=c.length+2000*aV d)(f:Fs)(n:Nat):∀L,L.length<=n->∀d c,(da z3 f L d c).1.length+2000*aV (da z3 f L d c).2<=c.length+L.length+2000*aV d:=by
 induction n with
 | zero =>
  intro L m d c;cases L with
  | nil=>rw[da];simp
  | cons _ _=>simp at m
 | succ n p =>
  intro L m d c;cases L with
  | nil=>rw[da];simp
  | cons t r =>
   have g:r.length<=n:=(by simpa using m);rw[da.eq_def];simp only[List.length_cons];split
   ·split
    ·simp only;omega
    ·simp only[List.length_append,List.length_cons,List.length_nil];omega
   ·split
    ·have:=p r g d (c++[t]);rw[Tv,Uj,Uq]at this;omega
    ·split
     ·simp only[List.length_append,List.length_cons,List.length_nil];omega
     ·cases r with
      | nil=>simp only;omega
      | cons a r =>
       cases r with
       | nil=>simp only[List.length_append,List.length_cons,List.length_nil];omega
       | cons b r =>
        have i:r.length<=n:=(by simp at g;omega);simp only[List.length_cons];split
        ·simp only[List.length_append,List.length_cons,List.length_nil];omega
        ·split
         ·simp only[List.length_append,List.length_cons,List.length_nil];omega
         ·split
          ·have:=p r i d c;omega
          ·next l =>
           have o:d[(bU f a.s).toNat]?=some false:=by
            rw[To]at l;cases e:d[(bU f a.s).toNat]? with
            | none=>rw[e]at l;exact absurd rfl l
            | some x=>rw[e]at l;cases x;rfl;exact absurd rfl l
           have q:=j (bU f a.s).toNat d c o;split
           ·omega
           ·have:=p r i (z3 (bU f a.s).toNat d c).2 (z3 (bU f a.s).toNat d c).1;omega
theorem Ge(c:∀k,(ak H k).size<=1024)(n:Nat):∀k b a,b[k]?=some false->(eU H n k b a).1.length+2000*aV (eU H n k b a).2<=a.length+2000*aV b:=by
 induction n with
 | zero=>intro k b a _;rw[eU];simp
 | succ n e =>
  intro k b a d;rw[eU];have f:=Gb (eU H n) e H _ (su H k) (Tq _) (b.set k true) a;have g:=Eu H k;have i:=l8 b k d;have j:=c k;omega
theorem JL(c:H.length<=4)(a:∀l,(ak H l).size<=1024)(d:l<H.length):(cN H l).1.length<=10000:=by
 have h:=Ge H a H.length l (List.replicate H.length false) [] (by rw[UP,Tr d]);rw[nY]at h;have b:(qq H l).length<=10000:=by unfold qq;simp at h;omega
 unfold cN;split
 ·rw[Vk];omega
 ·exact b
structure EV(w:World)(v:Nat)(fs:Fs)(h:Hd)(T:List Tk)(lo hi b:Nat)(aT:Xu)(cT:Nat)(aS:Xu)(cS:Nat)(PS:List (jP×Hd))(h1:Hd)(RS:List iq)(h2:Hd):Prop where
 rv:gC w v fs h true (pointer (some ⟨b,0,none⟩)) (slice h1.ao PS.length h1.cap) (slice h2.ao RS.length h2.cap)
 db:gy w b T aT cT (aa T) aS cS
 ps:PS.map (·.1)=(List.range (aa T).length).map (nO (aa T) (DJ T (aa T)))
 XY:oJ (aa T) PS ((List.range (aa T).length).map (mJ T (aa T) (Ap T (aa T)))) RS (aa T).length
 s1:aB w h1 (gO PS)
 s2:aB w h2 (gG RS)
 sq:∀x∈PS,di w x.2.ao 6 lI x.1.st
 nb:lo<=b/\b<hi
 nT:∀g,aT=some ⟨g,0,none⟩->lo<=g/\g<hi
 nS:∀g,aS=some ⟨g,0,none⟩->lo<=g/\g<hi
 n1:∀g,h1.XS=some g->lo<=g/\g<hi
 n2:∀g,h2.XS=some g->lo<=g/\g<hi
 nq:∀x∈PS,∀g,x.2.ao=some ⟨g,0,none⟩->lo<=g/\g<hi
def zh(w:World)(v:Nat)(fs:Fs)(h:Hd)(T:List Tk)(lo hi:Nat):Prop:=∃b aT cT aS cS PS h1 RS h2,EV w v fs h T lo hi b aT cT aS cS PS h1 RS h2
theorem zh.XR(a:zh n w d D y x u)(c:ae z7 n k)(C:w∉z7)(A:∀q,D.XS=some q->q∉z7)(B:∀q,x<=q->q<u->q∉z7):zh k w d D y x u:=by
 obtain⟨b,o,r,m,p,j,v,l,z,a⟩:=a;have q:∀g,x<=g/\g<u->g∉z7:=fun g f=>B g f.1 f.2
 exact⟨b,o,r,m,p,j,v,l,z,{ a with
  rv:=a.rv.keptS c C A
  db:=⟨c.get a.db.d (q b a.nb),a.db.t.keptS c (fun g e=>q g (a.nT g e)),a.db.s.keptS c (fun g e=>q g (a.nS g e))⟩
  s1:=a.s1.XJ (fun g e=>c.block g (a.s1.lt e) (q g (a.n1 g e)))
  s2:=a.s2.XJ (fun g e=>c.block g (a.s2.lt e) (q g (a.n2 g e)))
  sq:=fun f i=>(a.sq f i).keptS c (fun g e=>q g (a.nq f i g e)) }⟩
theorem zh.rvAt(a:zh n w d D y x u):∃c e f,gC n w d D true c e f:=by
 obtain⟨b,k,m,j,l,g,o,i,p,a⟩:=a;exact⟨_,_,_,a.rv⟩
theorem NT{X:World}{f:List (jP×Hd)}{m:List iq}{j:Hd}(a:xa n k w x I M f c m j)(i:gy k x y p y5 (aa y) y0 y6)(G:gC X w d D true (pointer (some ⟨x,0,none⟩)) (slice c.ao f.length c.cap) (slice j.ao m.length j.cap))(K:ae [w,u] k X)(N:w<t)(J:u<t)(r:t<=n.heap.size)(v:t<=x)(o:∀g,p=some ⟨g,0,none⟩->t<=g/\g<k.heap.size)(nS:∀g,y0=some ⟨g,0,none⟩->t<=g/\g<k.heap.size)(F:f.map (·.1)=(List.range (aa y).length).map (nO (aa y) (DJ y (aa y))))(A:oJ (aa y) f ((List.range (aa y).length).map (mJ y (aa y) (Ap y (aa y)))) m (aa y).length):zh X w d D y t X.heap.size:=by
 have z:=K.size;have q:∀g,t<=g->g∉[w,u]:=fun g L H=>by simp at H;omega
 have B:∀g,c.XS=some g->t<=g/\g<X.heap.size:=fun g e=>⟨TF r (a.f1 g e),Tw (a.o1.lt e) z⟩
 have C:∀g,j.XS=some g->t<=g/\g<X.heap.size:=fun g e=>⟨TF r (a.f2 g e),Tw (a.o2.lt e) z⟩
 have E:∀b∈f,∀g,b.2.ao=some ⟨g,0,none⟩->t<=g/\g<X.heap.size:=fun b l g e=>⟨TF r ((a.q b l).2 g e).1,Tw (a.ql b l g e) z⟩
 exact⟨x,p,y5,y0,y6,f,c,m,j,{
  rv:=G
  db:=⟨K.get i.d (q x v),i.t.keptS K (fun g e=>q g (o g e).1),i.s.keptS K (fun g e=>q g (nS g e).1)⟩
  ps:=F
  XY:=A
  s1:=a.o1.XJ (fun g e=>K.block g (a.o1.lt e) (q g (B g e).1))
  s2:=a.o2.XJ (fun g e=>K.block g (a.o2.lt e) (q g (C g e).1))
  sq:=fun b l=>(a.q b l).1.keptS K (fun g e=>q g (E b l g e).1)
  nb:=⟨v,Tw (aj i.d) z⟩
  nT:=fun g e=>⟨(o g e).1,Tw (o g e).2 z⟩
  nS:=fun g e=>⟨(nS g e).1,Tw (nS g e).2 z⟩
  n1:=B
  n2:=C
  nq:=E }⟩
def SF(fs:Fs)(k v:Nat)(h:Hd)(f:pu)(c:Int)(w:World)(e:Ending)(w':World):Prop :=
 e=returned (tuple #[iw f,int i64 c])/\((c=0->∃lo,w.heap.size<=lo/\zh w' v fs h (cN fs k).1 lo w'.heap.size)/\(c≠0->∃p2 p3 p4,gC w' v fs h false p2 p3 p4))/\ae [v] w w'
theorem gC.keptV{on':Bool}(a:gC n w d D z2 I M N)(f:ae [w] n k)(c:k.heap[w]?=some (.cells #[slice D.ao d.length D.cap,bool on',z5,y7,y9] 85)):gC k w d D on' z5 y7 y9 :=
 ⟨c,a.X9.XJ (fun q b=>f.block q (a.X9.lt b) (by simp;intro e;rw[e]at b;exact a.far b)),a.far,a.le⟩
theorem tV(h:∀j,j<d.length->(ak d j).size<=1024)(k:Nat):(ak d k).size<=1024:=by
 by_cases a:k<d.length
 ·exact h k a
 ·unfold ak;rw[To,Un (by omega)];show(0:Nat)<=1024;omega
theorem gC.XN(a:gC n w d D z2 I M N)(c:w≠x)(b:∀q,D.XS=some q->q≠x)(i:Nat)(u:Value):gC (n.setCell ⟨x,i,none⟩ u) w d D z2 I M N :=
 ⟨((ae.refl [x] n).sl1 _).get a.d (by simp;exact c),a.X9.XN b i u,a.far,a.le⟩
theorem wK{c u0 u1 u2 u3:Value}(e:k.heap[w]?=some (.cells #[z5,y7,y9,c] 87))(g:gC k x d D z2 I M N)(l:x<w)(i:∀q,D.XS=some q->q<w)(f:ae [x] n k)(b:n.heap.size<=w) :
  ((((k.setCell ⟨w,0,none⟩ u0).setCell ⟨w,1,none⟩ u1).setCell ⟨w,2,none⟩ u2).setCell ⟨w,3,none⟩ u3).heap[w]?=some (.cells #[u0,u1,u2,u3] 87)/\gC ((((k.setCell ⟨w,0,none⟩ u0).setCell ⟨w,1,none⟩ u1).setCell ⟨w,2,none⟩ u2).setCell ⟨w,3,none⟩ u3) x d D z2 I M N/\ae [x] n ((((k.setCell ⟨w,0,none⟩ u0).setCell ⟨w,1,none⟩ u1).setCell ⟨w,2,none⟩ u2).setCell ⟨w,3,none⟩ u3):=by
 refine⟨ab (ab (ab (ab e 0 u0) 1 u1) 2 u2) 3 u3,?_,(((f.setCell (TE b) _).setCell (TE b) _).setCell (TE b) _).setCell (TE b) _⟩;have a:∀q,D.XS=some q->q≠w:=fun q j=>by have:=i q j;omega
 exact(((g.XN (by omega) a _ _).XN (by omega) a _ _).XN (by omega) a _ _).XN (by omega) a _ _
theorem nI(h:n.heap[w]?=some (.cells #[I,M,N,z5] 87)) :
  (n.cell? ⟨w,0,none⟩=some I/\n.cell? ⟨w,1,none⟩=some M/\n.cell? ⟨w,2,none⟩=some N/\n.cell? ⟨w,3,none⟩=some z5)/\(n.frozen? ⟨w,0,none⟩=false/\n.frozen? ⟨w,1,none⟩=false/\n.frozen? ⟨w,2,none⟩=false/\n.frozen? ⟨w,3,none⟩=false)/\w<n.heap.size:=by
 refine⟨⟨?_,?_,?_,?_⟩,⟨am h 0,am h 1,am h 2,am h 3⟩,aj h⟩
 all_goals (rw[ah h];rfl)
theorem xA(c:H.length<=4)(d:∀j,j<H.length->(ak H j).size<=1024)(m:l<H.length)(f:((zO (cN H l).1 (aa (cN H l).1)).X6==0)=true)(b:((cN H l).2.X6==0)=true):gj H l=cZ/\∀q,q<(cN H l).1.length->aY (cN H l).1 (aa (cN H l).1) q=0:=by
 obtain⟨e,g⟩:=xy H l c d m;have n:(gj H l).1=0:=by
  unfold gj;rw[Tp (by rw[f];simp)];exact Wh b
 refine⟨?_,(g (by rw[e,n];rfl)).1.u⟩;have k:(cN H l).2=gU:=by
  unfold cN at b ⊢;split
  ·next a =>
   rw[Tr a]at b;unfold fk at a;cases i:(qq H l).getLast? with
   | none=>rw[i]at a;cases a
   | some t =>
    rw[i]at a b;simp only[Option.getD_some]at b;simp only at a;rw[b]at a;cases a
  ·rfl
 unfold gj;rw[Tp (by rw[f];simp),k];rfl
set_option maxRecDepth 100000
theorem zB(h:Hd)(u:Bool)(v x y:Value)(n:Xs)(w:World)(f:gC w z0 H h u v x y)(J:bU H n<0) :
  Calls prog 38 #[pointer (some ⟨z0,0,none⟩),string n] w fun e z=>e=returned (tuple #[iw cZ,int i64 5])/\ae [] w z:=by
 obtain⟨W,j⟩:=bn (w.alloc (.cells #[int i64 0,string ⟨#[]⟩,int i64 0,int i64 0] 87));have a:Xr _:=fI j.o;have k:Xr _:=f9 j.o;have b:Xr _:=f.XE a.o;have i:Xr _:=(ny H h.ao h.cap n W (by have:=f.le;omega) b.o.X9.srcFi);have K:W.cell? ⟨z0,0,none⟩=some (slice h.ao H.length h.cap):=by rw[ah b.o.d];rfl
 obtain⟨⟨E,F,G,I⟩,⟨A,B,C,D⟩,M⟩:=nI k.o;have c:Xr (z0<w.heap.size/\∀q,h.XS=some q->q<w.heap.size):=⟨aj f.d,fun q t=>f.X9.lt t⟩;clear f;go_enter func38,ntmps38;go_upto_region 1 with fail
 rw[j.o];go_wp2_with (go_at_call 36;refine Ts i.o ?_;rintro e L ⟨rfl,g⟩;rw[g];clear g);obtain⟨l,-,-⟩:=wK (u0:=int i64 0) (u1:=string ⟨#[]⟩) (u2:=int i64 0) (u3:=int i64 0) k.o b.o c.o.1 c.o.2 (pG a.o) (Tq _);obtain⟨⟨m,p,r,s⟩,-,-⟩:=nI l;exact Tz (v:=tuple #[agg #[int i64 0,string ⟨#[]⟩,int i64 0,int i64 0],int i64 5]) (by simp[results,results38,go_sem,m,p,r,s]) rfl ⟨rfl,(((a.o.sr1 (Tq _) _).sr1 (Tq _) _).sr1 (Tq _) _).sr1 (Tq _) _⟩
theorem Cm(a:Fs)(h:Hd)(on:Bool)(p2 p3 p4:Value)(n:Xs)(w:World)(hR:gC w v a h on p2 p3 p4)(hf:bU a n=(l:Int))(hk:l<a.length)(Z:∀j,j<a.length->(ak a j).size<=1024) :
  Calls prog 38 #[pointer (some ⟨v,0,none⟩),string n] w fun e w'=>SF a l v h (gj a l) (if((gj a l).1==0)=true then 0 else 6) w e w':=by
 unfold SF;have ax:=hR.le;obtain⟨cb,k⟩:=h;obtain⟨gf,av,cf,-⟩:=hR.X9.srcFi.2 l hk;replace av:cb=some ⟨gf,0,none⟩:=av;subst av;obtain⟨W,HW⟩:=bn (w.alloc (.cells #[int i64 0,string ⟨#[]⟩,int i64 0,int i64 0] 87));have ba:Xr _:=fI HW.o;have BF:Xr _:=f9 HW.o;have C:Xr _:=hR.XE ba.o;have a6:Xr _:=(ny a (some ⟨gf,0,none⟩) k n W (by omega) C.o.X9.srcFi);rw[hf]at a6;have v0:W.cell? ⟨v,0,none⟩=some (slice (some ⟨gf,0,none⟩) a.length k):=by rw[ah C.o.d];rfl
 have v1:W.cell? ⟨v,1,none⟩=some (bool on):=by rw[ah C.o.d];rfl
 have e1:=am C.o.d 1;have c:Xr (v<w.heap.size/\∀q,(⟨some ⟨gf,0,none⟩,k⟩:Hd).XS=some q->q<w.heap.size):=⟨aj hR.d,fun q hq=>hR.X9.lt hq⟩;obtain⟨L,Q⟩:=bn (W.setCell ⟨v,1,none⟩ (bool false));have O:Xr (gC L v a ⟨some ⟨gf,0,none⟩,k⟩ false p2 p3 p4):=by show gC _ _ _ _ _ _ _ _;rw[<-Q.o];exact C.o.off
 have an:Xr (ae [v] w L):=by show ae _ _ _;rw[<-Q.o];exact(pG ba.o).sl1 _
 have az:Xr (L.heap[w.heap.size]?=some (.cells #[int i64 0,string ⟨#[]⟩,int i64 0,int i64 0] 87)):=by
  show _=_;rw[<-Q.o];exact((ae.refl [v] _).sl1 _).get BF.o (by have:=c.o.1;simp;omega)
 have N:Xr _:=JM a gf k l L ax (tV Z) hk O.o.X9.srcFi (O.o.X9.lt rfl);have ch:L.cell? ⟨v,0,none⟩=some (slice (some ⟨gf,0,none⟩) a.length k):=by rw[ah O.o.d];rfl
 have P:Xr _:=C8 a l (tV Z);have z:Xr _:=JL a l ax (tV Z) hk;have A:Xr _:=xA a l ax Z hk;have y:Xr (gj a l=if((zO (cN a l).1 (aa (cN a l).1)).X6==0)=false then MR (zO (cN a l).1 (aa (cN a l).1)) else MR (cN a l).2):=rfl;obtain⟨f,Hf⟩:=bn (gj a l);rw[Hf.o]at y A ⊢;obtain⟨cc,S⟩:=bn ((if(f.1==0)=true then(0:Int) else 6));rw[S.o];obtain⟨⟨T,t⟩,b5⟩:∃Tt,Xr (cN a l=Tt):=⟨_,rfl⟩
 rw[b5.o]at N P z A y ⊢;simp only at N P z A y ⊢;obtain⟨u,Hu⟩:=bn (zO T (aa T));rw[Hu.o]at A y;have bj:Xr (∀i,(tS T i).size<=1073741824):=fun i=>by
  unfold tS;rw[To];cases e:T[i]? with
  | none=>show(0:Nat)<=_;omega
  | some t=>have:=(P.o t (U0 e)).1;show t.s.size<=_;omega
 clear hR cf hf;go_enter func38,ntmps38;go_upto_region 1 with fail
 rw[HW.o];go_upto_region 5 with (go_at_call 36;refine Ts a6.o ?_;rintro e w9 ⟨rfl,bl⟩;rw[bl];clear bl)
 rw[Q.o];clear v0 v1 e1;obtain⟨ts,tr,tf,tl,tc⟩:=t;obtain⟨us,ur,uf,ul,uc⟩:=u;simp only at N;go_upto_region 6 with (go_at_call 55;refine Ts N.o ?_;rintro e w7 ⟨aT,cT,rfl,sT,k7,n7⟩)
 obtain⟨X,G⟩:=bn (w7.alloc (.cells #[int i64 tr,string tf,int i64 tl,int i64 tc] 87));have a7:Xr (ae [] L X):=by show ae _ _ _;rw[<-G.o];exact k7.alloc _
 have br:Xr _:=f9 G.o;have R:Xr (w7.heap.size<=X.heap.size/\L.heap.size<=X.heap.size):=⟨by rw[<-G.o];simp,a7.o.size⟩;have bc:Xr _:=n7;have b4:Xr _:=(Np T aT cT X (lQ.XE sT (by rw[<-G.o];exact bR.alloc _)) (by have:=z.o;omega) bj.o);rw[G.o];clear sT k7 ch n7;go_upto_region 7 with (go_at_call 56;refine Ts b4.o ?_;rintro e w9 ⟨rfl,aS,cS,d9,k9,n9⟩)
 have al:Xr _:=(xF X.heap.size T aT cT (aa T) aS cS w9 d9 (by have:=z.o;omega) (QG T (by have:=z.o;omega)) bj.o);rw[Hu.o]at al;simp only at al;have be:Xr (∀g,aT=some ⟨g,0,none⟩->L.heap.size<=g/\g<w9.heap.size):=fun g J=>⟨(bc.o g J).1,Tw (bc.o g J).2 (TF R.o.1 k9.size)⟩
 have bd:Xr (∀g,aS=some ⟨g,0,none⟩->L.heap.size<=g/\g<w9.heap.size):=fun g J=>⟨TF R.o.2 (n9 g J).1,(n9 g J).2⟩
 have b1:Xr _:=a7.o.trans k9;have bs:Xr _:=(k9.get br.o (by simp));have b6:Xr _:=k9.size;have bw:Xr _:=d9;clear d9 k9 n9;go_upto_region 8 with (go_at_call 57;refine Ts al.o ?_;rintro e cj ⟨rfl,bp⟩)
 obtain⟨U,D⟩:=bn (cj.alloc (.cells #[int i64 ur,string uf,int i64 ul,int i64 uc] 87));have a1:Xr _:=f9 D.o;have x:Xr (ae [] w9 U):=by show ae _ _ _;rw[<-D.o];exact bp.alloc _
 have B:Xr _:=b1.o.trans x.o;have a4:Xr _:=gy.XE bw.o x.o;have bv:Xr _:=(x.o.get bs.o (by simp));have b:Xr _:=O.o.XE B.o;have M:Xr _:=(B.o.get az.o (by simp));have ao:Xr _:=an.o.trans (pG B.o);rw[D.o];clear bp;obtain⟨⟨u0,u1,u2,u3⟩,-,uz⟩:=nI a1.o;obtain⟨⟨t0,t1,t2,t3⟩,-,tz⟩:=nI bv.o;obtain⟨⟨g0,g1,g2,g3⟩,⟨f0,f1,f2,f3⟩,wz⟩:=nI M.o;cases hu:(ur==0)
 ·have HX:Xr (f=(ur,⟨uf,ul,uc⟩)):=by show _=_;rw[y.o];exact Tr hu
  have HC:Xr (cc=6):=ci (by rw[<-S.o,HX.o];exact Tp (fun q=>by have q':(ur==0)=true:=q;rw[hu]at q';cases q'));go_wp2;obtain⟨B1,R1,K1⟩:=wK (u0:=int i64 ur) (u1:=string uf) (u2:=int i64 ul) (u3:=int i64 uc) M.o b.o c.o.1 c.o.2 ao.o (Tq _);obtain⟨⟨c0,c1,c2,c3⟩,-,-⟩:=nI B1;exact Tz (v:=tuple #[agg #[int i64 ur,string uf,int i64 ul,int i64 uc],int i64 6]) (by simp[results,results38,go_sem,c0,c1,c2,c3]) rfl (by rw[HC.o,HX.o];exact⟨rfl,⟨(fun q=>by cases q),fun _=>⟨_,_,_,R1⟩⟩,K1⟩)
 ·cases ht:(tr==0)
  ·have HX:Xr (f=(tr,⟨tf,tl,tc⟩)):=(by show _=_;rw[y.o];exact Tp (fun q=>by have q':(ur==0)=false:=q;rw[hu]at q';cases q'));have HC:Xr (cc=6):=ci (by rw[<-S.o,HX.o];exact Tp (fun q=>by have q':(tr==0)=true:=q;rw[ht]at q';cases q'));go_wp2;obtain⟨B1,R1,K1⟩:=wK (u0:=int i64 tr) (u1:=string tf) (u2:=int i64 tl) (u3:=int i64 tc) M.o b.o c.o.1 c.o.2 ao.o (Tq _);obtain⟨⟨c0,c1,c2,c3⟩,-,-⟩:=nI B1;exact Tz (v:=tuple #[agg #[int i64 tr,string tf,int i64 tl,int i64 tc],int i64 6]) (by simp[results,results38,go_sem,c0,c1,c2,c3]) rfl (by rw[HC.o,HX.o];exact⟨rfl,⟨(fun q=>by cases q),fun _=>⟨_,_,_,R1⟩⟩,K1⟩)
  ·obtain⟨bk,ag⟩:=A.o hu ht;have a0:Xr _:=ag;have HX:Xr _:=bk;have HC:Xr (cc=0):=ci (by rw[<-S.o,HX.o];rfl);clear bk ag;have x2:U.cell? ⟨v,2,none⟩=some p2:=(by rw[ah b.o.d];rfl);have y2:=am b.o.d 2;have Y:=ab b.o.d 2 (pointer (some ⟨X.heap.size,0,none⟩));obtain⟨V,E⟩:=bn (U.setCell ⟨v,2,none⟩ (pointer (some ⟨X.heap.size,0,none⟩)));rw[E.o]at Y;have m:Xr (ae [v] U V):=(by show ae _ _ _;rw[<-E.o];exact(ae.refl [v] _).sl1 _);have ad:Xr _:=gy.off a4.o b.o.d m.o;have a2:Xr _:=(m.o.get M.o (by have:=c.o.1;simp;omega));have af:Xr _:=gC.keptV (on':=false) b.o m.o Y;have bz:Xr _:=Fv v X.heap.size T aT cT aS cS _ _ _ _ _ _ V Y ad.o z.o P.o a0.o;clear Y;(go_upto_region 13 with fail);rw[E.o];clear x2 y2 u0 u1 u2 u3 uz t0 t1 t2 t3 tz g0 g1 g2 g3 f0 f1 f2 f3 wz;(go_upto_region 14 with (go_at_call 58;refine Ts bz.o ?_;rintro e K ⟨PS,j1,j2,RS,rfl,bo,ai,jw⟩));have a3:Xr _:=(jw.XR.get a2.o (by have:=c.o.1;simp;omega));have I:=jw.d;have H:=jw.XR;have bf:Xr _:=gC.keptV (on':=false) af.o H I;have b2:Xr _:=(ao.o.trans m.o).trans H;have b0:Xr _:=jw;have bT:Xr _:=bo;have bx:Xr _:=ai;have a5:Xr _:=gy.off ad.o af.o.d H;have ap:Xr (w9.heap.size<=V.heap.size/\V.heap.size<=K.heap.size/\X.heap.size<=w9.heap.size):=⟨TF x.o.size m.o.size,H.size,b6.o⟩;have x1:K.cell? ⟨v,1,none⟩=some (bool false):=(by rw[ah I];rfl);have y1:=am I 1;have ar:=ab I 1 (bool true);obtain⟨ca,F⟩:=bn (K.setCell ⟨v,1,none⟩ (bool true));rw[F.o]at ar;have r:Xr (ae [v] K ca):=(by show ae _ _ _;rw[<-F.o];exact(ae.refl [v] _).sl1 _);have bg:Xr _:=gC.keptV (on':=true) bf.o r.o ar;have ac:Xr _:=(r.o.get a3.o (by have:=c.o.1;simp;omega));have b3:Xr _:=b2.o.trans r.o;clear jw bo ai I H ar;(go_upto_region 15 with fail);rw[F.o];clear x1 y1;obtain⟨⟨g0,g1,g2,g3⟩,⟨f0,f1,f2,f3⟩,wz⟩:=nI ac.o;go_wp2;obtain⟨B1,R1,K1⟩:=wK (u0:=int i64 0) (u1:=string ⟨#[]⟩) (u2:=int i64 0) (u3:=int i64 0) ac.o bg.o c.o.1 c.o.2 b3.o (Tq _);have KX:ae [v,w.heap.size] K _:=((((r.o.mono (S':=[v,w.heap.size]) (fun q hq _=>by rw[TI.1 hq];exact Ue)).setCell (p:=⟨w.heap.size,0,none⟩) (TH (by simp)) (int i64 0)).setCell (p:=⟨w.heap.size,1,none⟩) (TH (by simp)) (string ⟨#[]⟩)).setCell (p:=⟨w.heap.size,2,none⟩) (TH (by simp)) (int i64 0)).setCell (p:=⟨w.heap.size,3,none⟩) (TH (by simp)) (int i64 0);obtain⟨⟨c0,c1,c2,c3⟩,-,-⟩:=nI B1;exact Tz (v:=tuple #[agg #[int i64 0,string ⟨#[]⟩,int i64 0,int i64 0],int i64 0]) (by simp[results,results38,go_sem,c0,c1,c2,c3]) rfl (by rw[HC.o,HX.o];exact⟨rfl,⟨fun _=>⟨L.heap.size,an.o.size,NT b0.o a5.o R1 KX (Tw c.o.1 an.o.size) (aj az.o) (by have:=R.o;have:=ap.o;omega) R.o.2 (fun g J=>⟨(be.o g J).1,by have:=(be.o g J).2;have:=ap.o;omega⟩) (fun g J=>⟨(bd.o g J).1,by have:=(bd.o g J).2;have:=ap.o;omega⟩) bT.o bx.o⟩,fun q=>absurd rfl q⟩,K1⟩)
theorem Fg(h:l<v):aG (H.take v) l=aG H l/\ak (H.take v) l=ak H l:=by
 unfold aG ak;rw[To,VX,Tr h,To];exact⟨rfl,rfl⟩
theorem oc.take(h:oc n p w d)(k:Nat)(f:k<=d.length):oc n p w (d.take k):=by
 have b:(d.take k).length=k:=by rw[UJ];omega
 refine⟨by rw[b];exact TF f h.1,fun j a=>?_⟩;rw[b]at a;obtain⟨c,e⟩:=Fg d k j a;rw[c,e];exact h.2 j (by omega)
theorem MN(h:oc n (some ⟨w,0,none⟩) x d)(j:Nat)(u:Value)(a:(rT d)[j]?=some u):n.cell? ⟨w,j,none⟩=some u:=by
 have k:j<d.length*2:=by
  rw[<-wJ];exact(TA.1 a).1
 obtain⟨i,e,-,b,c⟩:=h.2 (j / 2) (by omega);cases e
 obtain⟨f,g⟩:=xB d (j / 2) (by omega);rcases WU j with e | e
 ·rw[show j / 2*2=j by omega]at b f;rw[f]at a;rw[b,<-a]
 ·rw[show j / 2*2+1=j by omega]at c g;rw[g]at a;rw[c,<-a]
def RK(w:World)(v:Nat)(h:Hd)(fs:Fs)(p2 p3 p4:Value)(r:Int)(w':World):Prop:=(r=0->∃h',gC w' v fs h' false p2 p3 p4/\ae (v :: h.XS.toList) w w'/\∀b,h'.XS=some b->h.XS=some b∨w.heap.size<=b)/\(r≠0->ae [] w w')
theorem RK.stay{r:Int}(a:r≠0)(b:ae [] n k):RK n w D d I M N r k:=⟨fun e=>absurd e a,fun _=>b⟩
theorem gC.newRow{b:Fs}(a:gC n w d D z2 I M N)(p:ae [] n k)(o:aB k c (cY b))(j:∀q,c.XS=some q->n.heap.size<=q)(l:b.length<=4)(m:x=b.length):gC (k.setCell ⟨w,0,none⟩ (slice c.ao x c.cap)) w b c z2 I M N:=by
 have i:=p.get a.d (by simp);have t:=aj a.d;have f:c.XS≠some w:=fun s=>by have:=j w s;omega
 have r:ae [w] k (k.setCell ⟨w,0,none⟩ (slice c.ao x c.cap)):=(ae.refl _ _).sl1 _;subst m;exact⟨by rw[ab i];rfl,o.XJ (fun q g=>r.block q (o.lt g) (by simp;intro e;exact f (by rw[<-e];exact g))),f,l⟩
theorem FC(a:Fs)(h:Hd)(on:Bool)(p2 p3 p4:Value)(E:Xu)(i:Nat)(w:World)(hR:gC w z0 H h on p2 p3 p4)(hS:oc w E i a)(hn:E=none->a.length=0/\i=0)(ha:∀B,E=some B->∃g,B=⟨g,0,none⟩)(P:∀j,j<a.length->(aG a j).size<=1073741824/\(ak a j).size<=1073741824) :
  Calls prog 32 #[pointer (some ⟨z0,0,none⟩),slice E a.length i] w fun e t=>e=returned (int i64 (dU a))/\RK w z0 h (jX H a) p2 p3 p4 (dU a) t:=by
 have HR:Xr _:=hR;by_cases h4:4<a.length
 ·have G:Xr (dU a=1):=by show _=_;unfold dU;rw[Tr h4]
  rw[G.o];have an:(4:Int)<a.length:=by omega
  clear hR;go_enter func32,ntmps32;go_wp2;go_ret;exact⟨rfl,RK.stay (by decide) (ae.refl _ _)⟩
 ·have G:Xr (dU a=de (EM a) a.length):=by show _=_;unfold dU;rw[Tp h4]
  obtain⟨r,Hr⟩:=bn (dU a);rw[Hr.o]at G ⊢;have an:¬(4:Int)<a.length:=by omega
  have V:Xr _:=hS;have HN:Xr _:=hn;have X:Xr _:=ha;have K:Xr _:=P;obtain⟨iF,az,R,S,T⟩:=TZ Bo;clear hR hS hn ha P;go_enter func32,ntmps32;go_wp2
  go_loopg [5] a.length (fun g iv wr=>∃k:Nat,k<=a.length/\g=a.length-k/\iv=int i64 k/\Xr (de (EM a) k=0)/\Xr (ae [] w wr))
  ·exact⟨0,by omega,rfl,rfl,rfl,ae.refl _ _⟩
  obtain⟨k,hk,hg,rfl,HZ,x⟩:=hrel;rcases kn k a.length with ⟨s,a1⟩ | ⟨s,-⟩
  ·have a0:(0:Int)<=(k:Int):=(by omega);have aT:=V.o.1;obtain⟨C,rfl,y,c0,c1⟩:=(oc.XE V.o x.o).2 k s;have HC:Xr (∀t,ae [] wr t->t.cell? ⟨C,k*2,none⟩=some (string (aG a k))/\t.cell? ⟨C,k*2+1,none⟩=some (string (ak a k))/\C<t.heap.size):=fun t kw=>⟨by rw[TO (kw.block C y (by simp))];exact c0,by rw[TO (kw.block C y (by simp))];exact c1,Tw y kw.size⟩
   have z:Xr (∀v,ae [] wr v->Calls prog 36 #[slice (some ⟨C,0,none⟩) k i,string (aG a k)] v fun e t=>e=returned (int i64 (bU (a.take k) (aG a k)))/\t=v):=fun v kx=>by
    have hl:(a.take k).length=k:=(by rw[UJ];omega);have:=ny (a.take k) (some ⟨C,0,none⟩) i (aG a k) v (by omega) (oc.take (oc.XE V.o (x.o.trans kx)) k hk);rw[hl]at this;exact this
   have F:Xr (∀v,Calls prog 35 #[string (aG a k),string (ak a k)] v fun e t=>e=returned (int i64 (dq (aG a k) (ak a k)))/\t=v):=fun v=>C7 _ _ v (K.o k s).1 (by have:=(K.o k s).2;omega);have l:Xr (EM a k=if(dq (aG a k) (ak a k)==0)=false then dq (aG a k) (ak a k) else if 0<=bU (a.take k) (aG a k) then 4 else 0):=rfl;have J:Xr ((EM a k==0)=false->r=EM a k):=fun q=>by rw[G.o];exact ng HZ.o q s
   have Y:Xr (EM a k=0->de (EM a) (k+1)=0):=fun q=>by rw[de,HZ.o];exact q
   generalize aG a k=nm at *;generalize ak a k=dt at *;obtain⟨ck,ai⟩:=bn (dq nm dt);rw[ai.o]at F l;obtain⟨fi,al⟩:=bn (bU (a.take k) nm);rw[al.o]at z l;(go_upto_region 6 with fail);go_region_with (go_at_call 35;refine(F.o _).mono ?_;rintro e U ⟨rfl,aS⟩)
   all_goals
    subst aS;obtain⟨U,H9⟩:=bn (wr.drew);rw[H9.o];have f:Xr (ae [] wr U):=by show ae _ _ _;rw[<-H9.o];exact(ae.refl [] wr).drew
    clear c0 c1 y;cases c:(ck==0)
    ·rw[c,Tr rfl]at l;have p:Xr _:=(J.o (by rw[l.o];exact c));rw[l.o]at p;have ax:(ck != 0)=true:=(by unfold bne;rw[c];rfl);go_wp2;go_ret;exact⟨au p.o.symm,RK.stay (by rw[p.o];exact fun q=>by rw[q]at c;cases c) (x.o.trans f.o)⟩
    ·rw[c,Tp (by simp)]at l;have ax:(ck != 0)=false:=(by unfold bne;rw[c];rfl);obtain⟨d0,d1,d2⟩:=HC.o U f.o;by_cases N:0<=fi
     ·rw[Tr N]at l;have p:Xr _:=(J.o (by rw[l.o];rfl));rw[l.o]at p;(go_upto_region 9 with fail);go_region_with (go_at_call 36;refine(z.o _ (by exact f.o.drew)).mono ?_;rintro e w8 ⟨rfl,D⟩)
      all_goals
       subst D;have A:Xr (ae [] w U.drew):=(x.o.trans f.o).drew;go_wp2;go_ret;exact⟨au p.o.symm,RK.stay (by rw[p.o];decide) A.o⟩
     ·rw[Tp N]at l;have HM:Xr _:=Y.o l.o;(go_upto_region 9 with fail);go_region_with (go_at_call 36;refine(z.o _ (by exact f.o.drew)).mono ?_;rintro e w8 ⟨rfl,D⟩)
      all_goals
       subst D;have A:Xr (ae [] w U.drew):=(x.o.trans f.o).drew;go_wp2;go_roundg (a.length-(k+1))
       ·exact⟨k+1,by omega,rfl,by go_num,HM,A⟩
       omega
  ·have e:k=a.length:=(by omega);subst e;have p:Xr (r=0):=ci (by rw[G.o];exact HZ.o);have a2:¬(a.length:Int)<a.length:=by omega
   have I:Xr _:=HR.o.XE x.o;have ar:aB wr ⟨none,0⟩ (cY []):=Ty _ _ _ _;have af:Xr _:=oc.XE V.o x.o;have av:Xr (∀B,E=some B->∀j u,(rT a)[j]?=some u->wr.cell? (B.add j)=some u):=fun B e j u hu=>by
    obtain⟨g,rfl⟩:=X.o B e;rw[bY];exact MN (by rw[<-e];exact af.o) j u hu
   have ap:Xr ((cY ([]:Fs)).n+a.length<=1000000000):=(by show 0+a.length<=_;omega);have ac:Xr (∀m:Nat,(cY ([]:Fs)).n+m=m):=fun m=>Vr m;(go_upto_region 12 with fail);go_wp2_with (at_builtin;refine fh _ rfl (.const (slice none 0 0)) (.tmp 43) 33 rfl iF (agg #[string ⟨#[]⟩,string ⟨#[]⟩]) 32 ⟨none,0⟩ (cY []) underlying33 az R S T rfl Xb rfl ar E a.length i (rT a) rfl (wJ a) HN.o av.o (Ik a) ap.o (by omega) ?_;intro h5 w5 Q O;have K5:ae [] wr w5:=(O.XR.mono (by simp[Hd.XS]));have L:=K5.get I.o.d (by simp);have v0:w5.cell? ⟨z0,0,none⟩=some (slice h.ao H.length h.cap):=(by rw[ah L];rfl);have v1:w5.cell? ⟨z0,1,none⟩=some (bool on):=(by rw[ah L];rfl);have e0:=am L 0;have e1:=am L 1;have vz:=aj L);go_ret;have er:(⟨(cY []).e,(cY []).size,(cY []).n+a.length,(cY []).xs++rT a⟩:eR)=cY a:=by
    show eR.mk _ _ (0+a.length) ([]++rT a)=_;rw[Vr];rfl
   rw[er]at Q;have M:∀q,h5.XS=some q->wr.heap.size<=q:=by
    intro q W;rcases O.XS with e | ⟨g,e,hg⟩
    ·rw[e]at W;cases W
    ·rw[e]at W;cases W;exact hg
   have Z:=(I.o.newRow K5 Q M (by omega) (ac.o a.length)).off;have ag:Xr _:=z9 (fs0:=H) (Hr.o.trans p.o);exact⟨au p.o.symm,by rw[ag.o];exact⟨fun _=>⟨h5,Z,(((x.o.trans K5).mono (by simp)).sl1 _).sl1 _,fun b hb=>TE (TF x.o.size (M b hb))⟩,fun q=>absurd p.o q⟩⟩
end Go.Proofs.YtnbhnocdhbcbcaaGreat

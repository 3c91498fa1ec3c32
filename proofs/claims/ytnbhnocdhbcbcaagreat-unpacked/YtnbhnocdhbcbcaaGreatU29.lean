import Derived.Test.YtnbhnocdhbcbcaaGreatU02
import Derived.Test.YtnbhnocdhbcbcaaGreatU22
import Derived.Test.YtnbhnocdhbcbcaaGreatU26
namespace Go.Proofs.YtnbhnocdhbcbcaaGreat
open Go.RowKit Tryz
open Value IntKind Ending
set_option maxHeartbeats 0
variable{i z4:Xs}{w x u t y5 y6:Nat}{z1:Xt}{y:List Tk}{z6:Tk}{o:List Sm}{n k:World}{p y0:Xu}{z7:Xv}{I M N z5 y7 y9:Value}{d:Fs}{D c:Hd}{z2:Bool}(z0:Nat)(H:Fs)(g L:Xs)(v l:Nat)(b:List Tk)(z3:Nat->List Bool->List Tk->List Tk×List Bool)
theorem cD{l m:List UInt8}(h:(i.toList==l)=true):(i.toList==m)=(l==m):=by
 have:i.toList=l:=by simpa using h
 rw[this]
section
variable {T:List Tk} {S:List Sm} {f:Nat}
structure tG(T:List Tk)(S:List Sm)(j:Nat):Prop where
 le:(aq S j).h<=(aq S j).z-1
 zt:(aq S j).z<=T.length
 pos:0<(aq S j).z
 dot:((tS T ((aq S j).z-1)).toList == [36,46])=true
 cl:jb (aq S j).k (eJ T (aq S j).h ((aq S j).z-1))=0
 w:∀q,(aq S j).h<=q->q<(aq S j).z-1->mO T S (aq S j).k (tS T q) j (eJ T (aq S j).h q)=0/\cd (tS T q)=false
theorem lG(p:CU T T.length S f)(c:∀q,q<T.length->aY T S q=0)(j:Nat)(h:j<S.length)(u:cd (aq S j).k=false):tG T S j:=by
 have t:=CK p j h;obtain⟨P,o⟩:=p.s j h;have b:(aq S j).h<=(aq S j).z-1->(aq S j).a<(aq S j).h->tG T S j:=fun l A=>by
  have B:=P.lt;have r:=c ((aq S j).z-1) (by omega);rw[t ((aq S j).z-1) (by omega) (by omega),Ud (by omega),Ud (by omega)]at r;obtain⟨v,w⟩:=yN P.e r;refine⟨l,o,by omega,v,w,fun q F y=>?_⟩;have Q:=c q (by omega);rw[t q (by omega) (by omega),Ud (by omega),Ud (by omega)]at Q;exact⟨Q,P.n q (by omega) y⟩
 have d:=P.k;have G:=P.lt;unfold eu at d;by_cases g:(io (tS T (aq S j).a) ⟨#[36]⟩||decide (T.length<=(aq S j).a+1))=true
 ·rw[Uf g]at d;have i:(aq S j).k=tS T (aq S j).a:=congrArg Prod.fst d;have x:(aq S j).h=(aq S j).a+1:=congrArg Prod.snd d;refine b ?_ (by omega);by_cases C:(aq S j).z-1=(aq S j).a
  ·have:=P.e;rw[C,<-i,u]at this;cases this
  ·omega
 ·rw[Ud g]at d;have i:(aq S j).k=tS T ((aq S j).a+1):=congrArg Prod.fst d;have x:(aq S j).h=(aq S j).a+2:=congrArg Prod.snd d;have m:io (tS T (aq S j).a) ⟨#[36]⟩=false:=by
   cases e:io (tS T (aq S j).a) ⟨#[36]⟩
   ·rfl
   ·rw[e]at g;exact absurd rfl g
  refine b ?_ (by omega);have D:(aq S j).z-1≠(aq S j).a:=fun e=>by
   have:=(lH P.e).1;rw[e,m]at this;cases this
  have E:(aq S j).z-1≠(aq S j).a+1:=fun e=>by
   have:=P.e;rw[e,<-i,u]at this;cases this
  omega
theorem tL(T:List Tk)(h i q:Nat)(a:h+q<i)(b:i<=T.length):(eJ T h i).getD q ⟨#[]⟩=tS T (h+q):=by
 unfold eJ tS;rw[Uc,UL,Wu,Uf (by omega),VQ,Uc];rw[Ub (by omega)];rfl
theorem nN(T:List Tk)(h i:Nat)(a:h<=i)(b:i<=T.length):(eJ T h i).length=i-h:=by
 unfold eJ;rw[Uy,U6,UX];omega
theorem uG(P:tG T S w):bA T (aq S w).h=(eJ T (aq S w).h ((aq S w).z-1)).takeWhile jE:=by
 have i:=P.zt;have g:=P.pos;have c:=P.le;unfold bA;have e:T.drop (aq S w).h=(T.drop (aq S w).h).take ((aq S w).z-1-(aq S w).h)++(T.getD ((aq S w).z-1) gO) :: T.drop (aq S w).z:=by
  conv=>lhs;rw[<-WF ((aq S w).z-1-(aq S w).h) (T.drop (aq S w).h)]
  rw[List.drop_drop,show(aq S w).h+((aq S w).z-1-(aq S w).h)=(aq S w).z-1 by omega,IF T ((aq S w).z-1) (by omega),show(aq S w).z-1+1=(aq S w).z by omega]
 rw[e,show ∀(L:List Tk) (t:Tk) (M:List Tk),L++t :: M=(L++[t])++M from fun L t M=>by simp,z9]
 ·rw[tM _ _ (fun u f=>?_) P.dot]
  ·rfl
  ·obtain⟨q,d,a⟩:=U7 f;rw[U6,UX]at d;have:=(P.w ((aq S w).h+q) (by omega) (by omega)).2;unfold cd at this;simp only[Bool.or_eq_false_iff]at this;have b:u.s=tS T ((aq S w).h+q):=by
    rw[<-a,List.getElem_take,WJ];unfold tS;rw[Uc,Ub (by omega)];rfl
   rw[b];exact this.1.1
 ·exact⟨T.getD ((aq S w).z-1) gO,by simp,uH P.dot⟩
theorem vK(P:tG T S w):dS T (aq S w).h:=⟨(aq S w).z-1,P.le,by have:=P.zt;have:=P.pos;omega,uH P.dot⟩
theorem wZ(h:mO T S i z4 w z1=0)(a:(z4.toList == [36,61])=true):(i.toList == [36,112])=true/\aJ z1 ⟨#[36,61]⟩=false/\z1.length≠0:=by
 unfold mO at h;rw[cD a (m:=[36,46]),Ud (by decide),a,VI]at h;cases b:(i.toList == [36,112])
 ·rw[b,Wl,Ud (by simp),Uf (by rw[qN a];decide +kernel)]at h;cases h
 ·cases c:aJ z1 ⟨#[36,61]⟩
  ·rw[b,c]at h;by_cases d:z1.length=0
   ·rw[Uf (by rfl),Uf d]at h;cases h
   ·exact⟨rfl,rfl,d⟩
  ·rw[b,c,Ud (by decide),Uf (by rw[qN a];decide +kernel)]at h;cases h
end
section
variable {T:List Tk} {S:List Sm} {f:Nat}
theorem Bo(T:List Tk)(h:Nat):eJ T h h=[]:=by unfold eJ;rw[U3];simp
theorem xd(P:tG T S w):0<(eJ T (aq S w).h ((aq S w).z-1)).length/\(((aq S w).k.toList == [36,102])=true->1<(eJ T (aq S w).h ((aq S w).z-1)).length):=by
 have a:=P.cl;unfold jb at a;split at a
 ·cases a
 ·next e =>
  split at a
  ·cases a
  ·next b =>
   refine⟨by omega,fun c=>?_⟩;have:¬(eJ T (aq S w).h ((aq S w).z-1)).length<2:=fun d=>b (by rw[c];simp[d]);omega
theorem wM(c:w<=x)(a:x<=T.length)(f:aJ (eJ T w x) i=true):∃q,w<=q/\q<x/\tS T q=i:=by
 unfold aJ at f;obtain⟨y,k,e⟩:=UW.1 f;obtain⟨q,d,g⟩:=U7 k;rw[nN T w x c a]at d;refine⟨w+q,by omega,by omega,?_⟩;have b:=tL T w x q (by omega) a;rw[Uc,Ub (by rw[nN T w x c a];exact d)]at b;have j:(eJ T w x)[q]=tS T (w+q):=b;rw[<-j,g];have:y.toList=i.toList:=by simpa using e
 apply XR;apply WO.1;rw[<-US,<-US,this]
theorem vJ(P:tG T S w)(d:((aq S w).k.toList == [36,112])=false):bA T (aq S w).h=eJ T (aq S w).h ((aq S w).z-1):=by
 rw[uG P];refine ua _ ?_;cases e:aJ (eJ T (aq S w).h ((aq S w).z-1)) ⟨#[36,61]⟩
 ·rfl
 ·have i:=P.zt;have g:=P.pos;obtain⟨q,b,c,a⟩:=wM P.le (by omega) e;have f:=(P.w q b c).1;have:=(wZ f (by rw[a];decide +kernel)).1;rw[d]at this;cases this
theorem vI(P:tG T S w):((tS T (aq S w).h).toList == [36,61])=false/\(aq S w).h<(aq S w).z-1:=by
 have b:=(xd P).1;have f:=P.zt;have d:=P.pos;rw[nN T _ _ P.le (by omega)]at b;have a:(aq S w).h<(aq S w).z-1:=by omega
 refine⟨?_,a⟩;cases e:((tS T (aq S w).h).toList == [36,61])
 ·rfl
 ·have c:=(P.w _ (Ue _) a).1;have:=(wZ c e).2.2;rw[Bo]at this;exact absurd rfl this
theorem AU(P:tG T S w):0<(bA T (aq S w).h).length/\(bA T (aq S w).h).getD 0 ⟨#[]⟩=tS T (aq S w).h:=by
 obtain⟨b,f⟩:=vI P;have g:=P.zt;have a:=tL T (aq S w).h ((aq S w).z-1) 0 (by omega) (by omega);have c:=(xd P).1;rw[uG P];rw[VD]at a;generalize eJ T (aq S w).h ((aq S w).z-1)=B at *;cases B with
 | nil=>simp at c
 | cons x B =>
  have e:x=tS T (aq S w).h:=a;have d:jE x=true:=by unfold jE;rw[e,b];rfl
  rw[VL d];exact⟨by simp,e⟩
theorem Ra(p:CU T T.length S f)(b:∀q,q<T.length->aY T S q=0)(n:Nat)(i:n<=S.length):Mi T S n:=fun j g c=>by
 have a:cd (aq S j).k=false:=by
  unfold aA aG at c;simp only[Bool.or_eq_true]at c;rcases c with (h | h) | (h | h) <;> exact fO h (by decide)
 have P:=lG p b j (by omega) a;refine⟨(AU P).1,fun e=>?_⟩;have d:((aq S j).k.toList == [36,112])=false:=by rw[cD e];decide
 show 1<(bA T (aq S j).h).length;rw[vJ P d];exact(xd P).2 e
theorem uw(h:mO T S i z4 w z1=0)(a:cd z4=false)(d:(z4.toList == [36,61])=false)(b:aJ z1 ⟨#[36,61]⟩=false):(if((i.toList == [36,99])||(i.toList == [36,118]))=true then kl T S z4 w (i.toList == [36,99]) z1 else ir T S i z4 w z1)=0:=by
 unfold mO at h;have c:(z4.toList == [36,46])=false:=by
  unfold cd at a;simp only[Bool.or_eq_false_iff]at a;exact a.1.1
 rw[c,d,b,Ud (by simp),Wl,Ud (by simp)]at h;split at h
 ·cases h
 ·exact h
theorem EQ(P:tG T S w)(c:(aA (aq S w).k||aG (aq S w).k)=true):eO T S (tS T (aq S w).h) w=true:=by
 obtain⟨e,f⟩:=vI P;obtain⟨d,i⟩:=P.w _ (Ue _) f;rw[Bo]at d;have b:=uw d i e rfl;have a:(((aq S w).k.toList == [36,99])||((aq S w).k.toList == [36,118]))=false/\((aq S w).k.toList == [36,100])=false:=by
  unfold aA aG at c;simp only[Bool.or_eq_true]at c;rcases c with (h | h) | (h | h) <;> (rw[cD h,cD h,cD h];decide)
 rw[a.1,Ud (by simp)]at b;unfold ir at b;rw[a.2,Ud (by simp),Uf (by rfl)]at b;cases g:eO T S (tS T (aq S w).h) w
 ·rw[g,Uf rfl]at b;cases b
 ·rfl
theorem M4(P:tG T S w)(a:((aq S w).k.toList == [36,102])=true):iI T S (tS T ((aq S w).h+1)) w=true/\(bA T (aq S w).h).getD 1 ⟨#[]⟩=tS T ((aq S w).h+1):=by
 have l:=(xd P).2 a;have p:=P.zt;have o:=P.pos;rw[nN T _ _ P.le (by omega)]at l;have b:((aq S w).k.toList == [36,112])=false:=by rw[cD a];decide
 have j:=tL T (aq S w).h ((aq S w).z-1) 1 (by omega) (by omega);refine⟨?_,by rw[vJ P b];exact j⟩;obtain⟨f,i⟩:=P.w ((aq S w).h+1) (by omega) (by omega);have m:((tS T ((aq S w).h+1)).toList == [36,61])=false:=by
  cases e:((tS T ((aq S w).h+1)).toList == [36,61])
  ·rfl
  ·have:=(wZ f e).1;rw[b]at this;cases this
 have d:eJ T (aq S w).h ((aq S w).h+1)=[tS T (aq S w).h]:=by
  have:=C2 T (aq S w).h (aq S w).h (Ue _) (by omega);rw[Bo]at this;exact this
 have g:aJ (eJ T (aq S w).h ((aq S w).h+1)) ⟨#[36,61]⟩=false:=by
  rw[d,sQ];have e:(⟨#[36,61]⟩:Xs).toList=[36,61]:=by decide +kernel
  rw[e];exact(vI P).1
 have c:=uw f i m g;rw[cD a,cD a,Ud (by decide)]at c;unfold ir at c;rw[d,cD a,Ud (by decide),Ud (by simp),a,Uf rfl,Ud (by simp)]at c;cases n:iI T S (tS T ((aq S w).h+1)) w
 ·rw[n,Uf rfl]at c;cases c
 ·rfl
theorem mL(p:CU T T.length S f)(n:∀q,q<T.length->aY T S q=0)(hi:w<=S.length)(hk:x<=S.length)(s:eO T S i w=true)(t:iI T S i x=true):False:=by
 unfold eO jL at s;unfold iI jL at t;obtain⟨j,u,v⟩:=UW.1 s;obtain⟨m,I,y⟩:=UW.1 t;have u:=Up.1 u;have I:=Up.1 I;unfold o8 at v y;rw[pk.1,Ux,Ux]at v;rw[pk.2,Ux,Ux]at y;obtain⟨l,G,-⟩:=v;obtain⟨F,L,-⟩:=y;have c:∀(j:Nat),j<S.length->(((aq S j).k.toList == [36,99])=true∨((aq S j).k.toList == [36,118])=true)->aJ (bA T (aq S j).h) i=true->∃B,kl T S i j ((aq S j).k.toList == [36,99]) B=0:=fun j u a H=>by
  have d:cd (aq S j).k=false:=by rcases a with h | h <;> exact fO h (by decide)
  have P:=lG p n j u d;have o:((aq S j).k.toList == [36,112])=false:=by rcases a with h | h <;> (rw[cD h];decide)
  rw[vJ P o]at H;have hz:=P.zt;have Y:=P.pos;obtain⟨q,E,K,e⟩:=wM P.le (by omega) H;obtain⟨W,V⟩:=P.w q E K;have b:∀q,(aq S j).h<=q->q<(aq S j).z-1->((tS T q).toList == [36,61])=false:=fun q s t=>by
   cases e:((tS T q).toList == [36,61])
   ·rfl
   ·have:=(wZ (P.w q s t).1 e).1;rw[o]at this;cases this
  have Q:aJ (eJ T (aq S j).h q) ⟨#[36,61]⟩=false:=by
   cases O:aJ (eJ T (aq S j).h q) ⟨#[36,61]⟩
   ·rfl
   ·obtain⟨Z,M,a2,N⟩:=wM E (by omega) O;have:=b Z M (by omega);rw[N]at this;exact absurd this (by decide +kernel)
  have J:=uw W V (b q E K) Q;rw[Uf (by rcases a with h | h <;> rw[h] <;> simp),e]at J;exact⟨_,J⟩
 obtain⟨B1,g⟩:=c j (by omega) (Us l) G;obtain⟨B2,k⟩:=c m (by omega) (Uo F) L;have r:((aq S m).k.toList == [36,99])=false:=by rw[cD F];decide
 rw[l]at g;rw[r]at k;unfold kl at g k;rcases Xf j m with D | A | C
 ·have R:eO T S i m=true:=by
   unfold eO jL;exact nh j D (by unfold o8;rw[pk.1,l,G];simp)
  rw[R]at k;split at k
  ·cases k
  ·simp at k
 ·rw[A,r]at l;cases l
 ·have U:jL T S ⟨#[36,118]⟩ i j false=true:=by
   unfold jL;exact nh m C (by unfold o8;rw[pk.2,F,L];simp)
  have X:jT T S i j=true:=by unfold jT;rw[U];simp
  rw[X]at g;split at g
  ·cases g
  ·simp at g
theorem Th(p:CU T T.length S f)(a:∀q,q<T.length->aY T S q=0)(n:Nat)(A:n<=S.length):Rn T S n:=fun r B g=>by
 have P:=lG p a r (by omega) (by unfold aA at g;rcases UO _ _ ▸ g with h | h <;> exact fO h (by decide));have w:=EQ P (by rw[g];rfl);have s:(bb T S r).getD 0 ⟨#[]⟩=tS T (aq S r).h:=(AU P).2;rw[s];cases e:aJ (bI T S (a9 T S r) (a9 T S r).length) (tS T (aq S r).h)
 ·rfl
 ·exfalso
  unfold aJ at e;obtain⟨y,l,d⟩:=UW.1 e;unfold bI at l;obtain⟨i,k,rfl⟩:=Vf.1 l;unfold ta at k;obtain⟨b,c⟩:=UP.1 k;have b:=Up.1 b;have v:(a9 T S r).getD i 0=(a9 T S r)[i]:=by rw[Uc,Ub b];rfl
  unfold sx at c;rw[v]at c d;have z:=qK T S r (a9 T S r)[i] (Uu b);generalize (a9 T S r)[i]=j at *;have o:=lG p a j (by omega) (fO c (by decide));obtain⟨m,x⟩:=M4 o c;have t:bb T S j=bA T (aq S j).h:=rfl;rw[t,x]at d;have u:tS T ((aq S j).h+1)=tS T (aq S r).h:=by
   have:(tS T ((aq S j).h+1)).toList=(tS T (aq S r).h).toList:=(by simpa using d);apply XR;apply WO.1;rw[<-US,<-US,this]
  rw[u]at m;exact mL p a (by omega) (by omega) w m
end
theorem OX(d:b.length<=10000)(a:∀q,q<b.length->aY b (aa b) q=0)(n:Nat)(g:n<=(aa b).length):pM b (aa b) n:=by
 have p:=dN b;have k:(aa b).length<=b.length:=rI b b.length;obtain⟨i,c⟩:=Cg b (by omega) a;have h:pM b (aa b) (aa b).length:=⟨i,by omega,d,fun j e f=>vK (lG p a j e f),c⟩;exact h.mono g
def In(S:List Sm)(a r:Nat):Prop:=r<a/\(aA (aq S r).k||aG (aq S r).k)=true
structure Rm(T:List Tk)(S:List Sm)(a i:Nat)(s:ci):Prop where
 nd:s.need<=10000
 Ys:s.ref=-1∨(s.ref=-2/\s.back<i)∨∃r,In S a r/\s.ref=(r:Nat)/\s.need=fL T S (r:Nat)
def oj(T:List Tk)(S:List Sm)(a:Nat)(P:List ci):Prop:=∀i,i<P.length->Rm T S a i (aQ P i)
section
variable {T:List Tk} {S:List Sm} {a:Nat}
theorem oj.snoc{P:List ci}{s:ci}(h:oj T S a P)(f:Rm T S a P.length s):oj T S a (P++[s]):=fun i d=>by
 rw[Uh,UK,UU]at d;by_cases e:i<P.length
 ·have b:aQ (P++[s]) i=aQ P i:=by unfold aQ;rw[Uc,Uc,Uv e]
  rw[b];exact h i e
 ·have c:i=P.length:=by omega
  have b:aQ (P++[s]) i=s:=by unfold aQ;rw[c,Uc,Ur (Ue _),U3];rfl
  rw[b,c];exact f
theorem oj.nil:oj T S a []:=fun i b=>by simp at b
theorem DZ(b:a<=10000)(c:w<a):fL T S (w:Nat)<=10000:=by
 unfold fL;split
 ·omega
 ·split
  ·have:=nE T S (w:Int).toNat;rw[UR]at this ⊢;omega
  ·omega
theorem AZ(h:dY T S a i=(w:Int)):In S a w:=by
 have d:=rt T S a i;rw[h]at d;rcases d with e | ⟨q,l,e⟩
 ·omega
 ·have f:w=q:=by omega
  subst f;refine⟨l,?_⟩;unfold dY at h;split at h
  ·omega
  ·split at h
   ·unfold bB at h;cases c:(List.range a).find? (mU T S i) with
    | none=>rw[c]at h;simp at h
    | some j =>
     rw[c]at h;have g:j=w:=by have h:(j:Int)=(w:Int):=h;omega
     have b:=VP c;rw[g]at b;unfold mU at b;rw[Ux]at b;cases k:(aA (aq S w).k||aG (aq S w).k)
     ·exfalso
      have:bD T (aq S w)=⟨#[]⟩:=(by unfold bD;rw[k,Ud (by simp)]);rw[this]at b;exact absurd b.1 (by decide +kernel)
     ·rfl
   ·omega
theorem M1(m:a<=10000)(e:Nat)(n:Nat):∀i P,oj T S a P->oj T S a (mB T S a e n i P).st/\((mB T S a e n i P).why=0->0<(mB T S a e n i P).st.length)/\(mB T S a e n i P).st.length<=P.length+n:=by
 induction n with
 | zero =>
  intro i P d;rw[mB];split
  ·exact⟨oj.nil,fun h=>(by cases h),UF _⟩
  ·exact⟨d,fun _=>(by simp only;omega),(by simp)⟩
 | succ n l =>
  intro i P d;rw[mB];split
  ·obtain⟨b,c,f⟩:=l (i+1) _ (d.snoc (s:=⟨-1,0,0,(T.getD i gO).YB,(T.getD i gO).YC,(T.getD i gO).YD⟩) ⟨by show 0<=10000;omega,Us rfl⟩);exact⟨b,c,by simp at f ⊢;omega⟩
  ·split
   ·exact⟨oj.nil,fun h=>(by cases h),UF _⟩
   ·next b c =>
    obtain⟨k,g⟩:∃k:Nat,dY T S a (tS T i)=k:=⟨(dY T S a (tS T i)).toNat,by omega⟩
    have j:=AZ g;rw[g];obtain⟨b,c,f⟩:=l (i+1) _ (d.snoc (s:=⟨(k:Int),0,fL T S (k:Int),(T.getD i gO).YB,(T.getD i gO).YC,(T.getD i gO).YD⟩) ⟨DZ m j.1,Uo (Uo ⟨k,j,rfl,rfl⟩)⟩);exact⟨b,c,by simp at f ⊢;omega⟩
theorem Ow(A:a<=10000)(d:Xv)(n:∀r∈d,In S a r)(v:Lt)(L:List Lt):∀P b f g,oj T S a P->(∀t∈b,t<P.length)->(g=true->0<P.length) ->
  oj T S a (mP T S d v L P b f g).st/\((mP T S d v L P b f g).why=0->0<(mP T S d v L P b f g).st.length)/\(mP T S d v L P b f g).st.length<=P.length+L.length:=by
 induction L with
 | nil =>
  intro P b f g o _ _;rw[mP];split
  ·exact⟨oj.nil,fun h=>(by cases h),UF _⟩
  ·split
   ·exact⟨oj.nil,fun h=>(by cases h),UF _⟩
   ·exact⟨o,fun _=>(by simp only;omega),(by simp)⟩
 | cons l L w =>
  intro P b f g o p z;rw[mP];split
  ·obtain⟨i,j,k⟩:=w P b (f++wO l.c) false o p (fun h=>by cases h);exact⟨i,j,by simp at k ⊢;omega⟩
  ·split
   ·split
    ·exact⟨oj.nil,fun h=>(by cases h),UF _⟩
    ·next y =>
     have B:=Aw (f++wO l.c) (d.length+b.length);generalize gu (f++wO l.c) (d.length+b.length)=m at *;have D:Rm T S a P.length (p9 T S d b m l):=by
      unfold p9;split
      ·next C =>
       have q:m-1<d.length:=(by omega);have e:d.getD (m-1) 0=d[m-1]:=(by rw[Uc,Ub q];rfl);have x:=n d[m-1] (Uu q);rw[e];exact⟨DZ A x.1,Uo (Uo ⟨_,x,rfl,rfl⟩)⟩
      ·next C =>
       have q:m-d.length-1<b.length:=(by omega);have e:b.getD (m-d.length-1) 0=b[m-d.length-1]:=(by rw[Uc,Ub q];rfl);rw[e];exact⟨by show 0<=10000;omega,Uo (Us ⟨rfl,p _ (Uu q)⟩)⟩
     obtain⟨i,j,k⟩:=w _ b ⟨#[]⟩ true (o.snoc D) (fun t u=>by rw[Uh];have:=p t u;omega) (fun _=>by simp);exact⟨i,j,by simp at k ⊢;omega⟩
   ·split
    ·next y =>
     have E:=z y.2
     obtain⟨i,j,k⟩:=w P (b++[P.length-1]) f false o (fun t u=>by
      rcases UG.1 u with h | h
      ·exact p t h
      ·rw[Uq.1 h];omega) (fun h=>by cases h)
     exact⟨i,j,by simp at k ⊢;omega⟩
    ·split
     ·obtain⟨i,j,k⟩:=w _ b f false (o.snoc (s:=⟨-1,0,0,l.YB,l.YC,l.YD⟩) ⟨by show 0<=10000;omega,Us rfl⟩) (fun t u=>by rw[Uh];have:=p t u;omega) (fun h=>by cases h);exact⟨i,j,by simp at k ⊢;omega⟩
     ·exact⟨oj.nil,fun h=>(by cases h),UF _⟩
theorem Qr(o:a<=10000)(m:fz T)(c:Nat)(n:Nat):∀i b,(∀r∈b,In S a r)->oj T S a (se T S a c n i b).st/\((se T S a c n i b).why=0->0<(se T S a c n i b).st.length)/\(se T S a c n i b).st.length<=1024*T.length:=by
 induction n with
 | zero=>intro i b _;rw[se];exact⟨oj.nil,fun h=>(by cases h),UF _⟩
 | succ n q =>
  intro i b l;rw[se];split
  ·obtain⟨e,f,g⟩:=Ow (T:=T) o b l (Ff (T.getD c gO)) (eR T (i+1) c) [] [] ⟨#[]⟩ false oj.nil (fun t p=>by cases p) (fun h=>by cases h);have:=yZ T m (i+1) c;rw[UU,V3]at g;exact⟨e,f,by unfold km;omega⟩
  ·split
   ·exact⟨oj.nil,fun h=>(by cases h),UF _⟩
   ·split
    ·exact⟨oj.nil,fun h=>(by cases h),UF _⟩
    ·next e f g =>
     obtain⟨k,j⟩:∃k:Nat,dY T S a (tS T i)=k:=⟨(dY T S a (tS T i)).toNat,by omega⟩
     refine q (i+1) _ (fun r d=>?_);rcases UG.1 d with h | h
     ·exact l r h
     ·rw[Uq.1 h,j,UR];exact AZ j
theorem sM(g:a<=10000)(i:fz T)(m:T.length<=10000)(e b:Nat)(n:b<=T.length):oj T S a (dU T S a e b).st/\((dU T S a e b).why=0->0<(dU T S a e b).st.length)/\(dU T S a e b).st.length<=100000000:=by
 unfold dU;split
 ·unfold jZ
  obtain⟨c,d,f⟩:=Qr (T:=T) (S:=S) g i b (b-(e+2)) (e+2) (a9 T S a) (fun r j=>by
   obtain⟨k,-,l⟩:=Ao T S a r j;exact⟨k,by rw[l];simp⟩)
  exact⟨c,d,by omega⟩
 ·obtain⟨c,d,f⟩:=M1 (T:=T) (S:=S) g b (b-(e+1)) (e+1) [] oj.nil;exact⟨c,d,by simp at f;omega⟩
theorem Ac(n:a<=10000)(l:fz T)(m:T.length<=10000)(e b:Nat)(q:b<=T.length):Mn T S a (dU T S a e b):=by
 obtain⟨g,s,t⟩:=sM (T:=T) (S:=S) n l m e b q;refine⟨t,fun i=>?_,fun h=>⟨s h,fun i c d=>⟨?_⟩⟩⟩
 ·by_cases c:i<(dU T S a e b).st.length
  ·have:=(g i c).nd;omega
  ·have:aQ (dU T S a e b).st i=Tg:=(by unfold aQ;rw[Uc,UT (by omega)];rfl);rw[this];show 0<=100000;omega
 ·rcases(g i c).Ys with h | ⟨h,o⟩ | ⟨r,f,j,k⟩
  ·exact absurd h d
  ·exact Us ⟨h,o⟩
  ·refine Uo ⟨r,f.1,j,f.2,fun p=>?_⟩;rw[k];unfold fL;rw[Ud (by omega),UR,Uf p]
end
def zy(t:Tk):Prop:=t.s.size<=1024/\0<=t.YD/\t.YD<=10000
theorem BD:fz []:=fun t a=>by cases a
theorem nk{M:List Tk}(h:fz y)(k:fz M):fz (y++M):=fun t a=>by
 rcases UG.1 a with e | e
 ·exact h t e
 ·exact k t e
theorem mv(h:zy z6):fz [z6]:=fun u a=>by rw[Uq.1 a];exact h
theorem t8(r:Int)(h:zy z6):zy (so z6 r):=⟨by show(0:Nat)<=1024;omega,h.2⟩
theorem Cx(s:Xs)(r:Int)(k:Nat)(a:s.size<=1024)(b:k<=1024):zy (ng g L s r k):=by
 have:=Bx L k;exact⟨a,by show 0<=bK L k;omega,by show bK L k<=10000;omega⟩
theorem E7(a:fz b)(c:v<=l)(d:l<=1024):fz (jV g L v l b):=by
 unfold jV;split
 ·exact a
 ·exact nk a (mv (Cx g L _ 0 v (by rw[Wv];omega) (by omega)))
theorem E4(i:Nat)(b:i<=1024):fz (jU g L i):=by
 induction i with
 | zero=>exact BD
 | succ i a =>
  rw[jU];split
  ·exact E7 g L _ i _ (a (by omega)) (pF L i) (by omega)
  ·exact a (by omega)
theorem Ma(a:L.size<=1024):fz (iZ g L):=by
 unfold iZ;split
 ·next i h =>
  have b:i<L.size:=Up.1 (UV h);exact nk (E4 g L i (by omega)) (mv (Cx g L _ 1 i (by show(0:Nat)<=1024;omega) (by omega)))
 ·exact nk (E7 g L _ _ _ (E4 g L _ a) (pF L _) a) (mv (Cx g L _ 0 _ (by show(0:Nat)<=1024;omega) a))
theorem xT(h:zy z6)(k:fz y):fz (z6 :: y):=fun u a=>by
 rcases UH.1 a with e | e
 ·rw[e];exact h
 ·exact k u e
theorem MH(b:Bool)(L:List Tk)(h:fz L):fz (b7 b L):=by
 induction L generalizing b with
 | nil=>cases b <;> exact BD
 | cons t L c =>
  have d:zy t:=h t (UN ..);have a:fz L:=fun u f=>h u (UM _ f);have e:∀r,zy ⟨⟨#[]⟩,r,t.YB,t.YC,t.YD⟩:=fun r=>⟨by show(0:Nat)<=1024;omega,d.2⟩
  cases b
  ·rw[b7];split
   ·exact c true a
   ·exact xT d (c false a)
  ·rw[b7];split
   ·exact xT d (c true a)
   ·split
    ·exact c false a
    ·split
     ·exact xT (e 3) (c true a)
     ·split
      ·exact mv (e 2)
      ·exact c true a
theorem Lg(f:∀k e c,fz c->fz (z3 k e c).1)(w:Fs)(n:Nat):∀L,L.length<=n->fz L->∀e c,fz c->fz (di z3 w L e c).1:=by
 induction n with
 | zero =>
  intro L m _ e c d;cases L with
  | nil=>rw[di];exact d
  | cons _ _=>simp at m
 | succ n q =>
  intro L m s e c d;cases L with
  | nil=>rw[di];exact d
  | cons t r =>
   have o:zy t:=s t (UN ..);have l:fz r:=fun u p=>s u (UM _ p);have g:r.length<=n:=(by simpa using m);rw[di.eq_def];simp only;split
   ·split
    ·exact d
    ·exact nk d (mv (t8 7 o))
   ·split
    ·exact q r g l e _ (nk d (mv o))
    ·split
     ·exact nk d (mv (t8 4 o))
     ·cases r with
      | nil=>exact d
      | cons a r =>
       have v:zy a:=l a (UN ..);cases r with
       | nil=>exact nk d (mv (t8 _ v))
       | cons b r =>
        have x:zy b:=l b (UM _ (UN ..));have j:fz r:=fun u p=>l u (UM _ (UM _ p));have i:r.length<=n:=(by simp at g;omega);simp only;split
        ·exact nk d (mv (t8 _ v))
        ·split
         ·exact nk d (mv (t8 _ x))
         ·split
          ·exact q r i j e c d
          ·split
           ·exact f _ e c d
           ·exact q r i j _ _ (f _ e c d)
theorem Lk(b:∀k,(ak H k).size<=1024)(n:Nat):∀k d a,fz a->fz (eU H n k d a).1:=by
 induction n with
 | zero=>intro k d a c;exact c
 | succ n e =>
  intro k d a c;rw[eU];exact Lg _ e H _ _ (Ue _) (MH _ _ (Ma _ _ (b k))) _ _ c
theorem Dw(a:∀l,(ak H l).size<=1024):fz (bL H l).1:=by
 have h:fz (qw H l):=Lk H a _ _ _ _ BD;unfold bL;split
 ·exact fun t b=>h t (Xq _ b)
 ·exact h
def BA(T:List Tk)(S:List Sm)(j:Nat):Nat:=(aq S j).h+(bA T (aq S j).h).length
theorem Ti(p:Xs->Bool)(L:Xt)(h:∃x∈L,p x=false):(L.takeWhile p).length<L.length/\p (L.getD (L.takeWhile p).length ⟨#[]⟩)=false/\∀q,q<(L.takeWhile p).length->p (L.getD q ⟨#[]⟩)=true:=by
 induction L with
 | nil=>obtain⟨x,f,-⟩:=h;cases f
 | cons a L j =>
  cases b:p a
  ·rw[List.takeWhile_cons,Ud (by rw[b];simp)];exact⟨by simp,b,fun q d=>by simp at d⟩
  ·rw[List.takeWhile_cons,Uf b]
   obtain⟨k,g,i⟩:=j (by
    obtain⟨x,f,c⟩:=h;rcases UH.1 f with e | e
    ·rw[e,b]at c;cases c
    ·exact⟨x,e,c⟩)
   refine⟨by simp;omega,g,fun q d=>?_⟩;cases q with
   | zero=>exact b
   | succ q=>exact i q (by simpa using d)
theorem Ov(P:tG y o w)(m:((aq o w).k.toList == [36,112])=true) :
  (aq o w).h<=BA y o w/\((tS y (BA y o w)).toList == [36,61])=true/\(∀q,(aq o w).h<=q->q<BA y o w->((tS y q).toList == [36,61])=false)/\BA y o w<(aq o w).z-1:=by
 have s:=P.zt;have r:=P.pos;have d:=P.le;have a:=P.cl;have n:=nN y (aq o w).h ((aq o w).z-1) d (by omega);have l:aJ (eJ y (aq o w).h ((aq o w).z-1)) ⟨#[36,61]⟩=true:=by
  unfold jb at a;split at a
  ·cases a
  ·split at a
   ·cases a
   ·cases e:aJ (eJ y (aq o w).h ((aq o w).z-1)) ⟨#[36,61]⟩
    ·rw[m,e,Uf (by decide)]at a;cases a
    ·rfl
 obtain⟨i,p,j⟩:=UW.1 l;have c:∃x∈eJ y (aq o w).h ((aq o w).z-1),jE x=false:=by
  refine⟨i,p,?_⟩;unfold jE;have e:i.toList=(⟨#[36,61]⟩:Xs).toList:=by simpa using j
  rw[e];decide +kernel
 obtain⟨f,b,g⟩:=Ti jE _ c;rw[<-uG P]at f b g;rw[n]at f;unfold BA;refine⟨by omega,?_,fun q t u=>?_,by omega⟩
 ·rw[tL y _ _ _ (by omega) (by omega)]at b;unfold jE at b;simpa using b
 ·have:=g (q-(aq o w).h) (by omega);rw[tL y _ _ _ (by omega) (by omega),show(aq o w).h+(q-(aq o w).h)=q by omega]at this;unfold jE at this;simpa using this
def Fg(T:List Tk)(S:List Sm)(a:Nat):jW:=dU T S a (BA T S a) ((aq S a).z-1)
def Cq(T:List Tk)(S:List Sm)(a:Nat):iH:=lI T S a (Fg T S a) (T.getD ((aq S a).z-1) gO)
theorem CW.keptS(h:CW n p w o)(c:ae z7 n k)(m:∀g,p=some ⟨g,0,none⟩->g∉z7):CW k p w o:=by
 refine⟨h.1,fun j t r=>?_⟩;obtain⟨g,e,b,d,f,i,l⟩:=h.2 j t r;have q:∀a,k.cell? ⟨g,a,none⟩=n.cell? ⟨g,a,none⟩:=fun a=>Uw (c.block g b (m g e));exact⟨g,e,Ul b c.size,by rw[q];exact d,by rw[q];exact f,by rw[q];exact i,by rw[q];exact l⟩
theorem ge.off{A:Xu}(h:ge n w y p u o y0 t)(v:n.heap[x]?=some (.cells #[slice A y5 y6,I,M,N,z5] 85))(l:ae [x] n k):ge k w y p u o y0 t:=by
 obtain⟨z,-⟩:=lr v;refine⟨l.get h.d (fun r=>?_),?_,?_⟩
 ·simp at r;subst r;have:=h.d.symm.trans v;simp at this
 ·cases q:y with
  | nil=>rw[q]at h;exact⟨h.t.1,fun j c i=>by simp at i⟩
  | cons c L =>
   rw[q]at h;refine h.t.keptS l (fun g e b=>?_);simp at b;subst b;obtain⟨g,f,-,a,-⟩:=h.t.2 0 c rfl;rw[f]at e;cases e;rw[X3]at a;rw[z]at a;cases a
 ·cases m:o with
  | nil=>rw[m]at h;exact⟨h.s.1,fun j c i=>by simp at i⟩
  | cons c L =>
   rw[m]at h;refine h.s.keptS l (fun g e b=>?_);simp at b;subst b;obtain⟨g,f,-,a,-⟩:=h.s.2 0 c rfl;rw[f]at e;cases e;rw[X3]at a;rw[z]at a;cases a
theorem FV(g:Xu)(y:Nat)(f:Xu)(x:Nat)(E:Xu)(n c:Nat)(D G H:Value)(w:World)(F:w.heap[v]?=some (.cells #[slice E n c,D,pointer (some ⟨l,0,none⟩),G,H] 85))(N:ge w l b g y (aa b) f x)(t:b.length<=10000)(A:fz b)(d:∀q,q<b.length->aY b (aa b) q=0) :
  Calls prog 58 #[pointer (some ⟨v,0,none⟩)] w fun e V=>Mk b (aa b) v l (slice E n c) D (Fg b (aa b)) (Cq b (aa b)) w e V:=by
 have p:=dN b;have W:(aa b).length<=b.length:=rI b b.length;have s:∀m,ae [v] w m->ge m l b g y (aa b) f x:=fun m k=>N.off F k;have j:∀a,mG (aa b) a=true->cd (aq (aa b) a).k=false:=fun a h=>fO h (by decide);refine FS v l b g y (aa b) f x _ D G H _ _ w F s (by omega) (OX b t d _ (Ue _)).ok.a ?_ ?_ ?_
 ·intro a o u m C;have P:=lG p d a o (j a u);obtain⟨I,J,K,L⟩:=Ov P u;have:=P.pos;have:=P.zt;exact FB l a (BA b (aa b) a) ((aq (aa b) a).z-1) b g y _ f x m (s m C) (OX b t d a (by omega)) o (vK P) A I J K (by omega) L (by omega) P.dot
 ·intro a o u B m C R;have P:=lG p d a o (j a u);have:=P.pos;have:=P.zt;exact CF l a ((aq (aa b) a).z-1) b g y _ f x (Fg b (aa b) a) B m (s m C) (OX b t d a (by omega)) (Ra p d a (by omega)) (Th p d a (by omega)) o (vK P) ((OX b t d _ (Ue _)).ok.a a o) (by omega) (by omega) R (Ac (by omega) A t _ _ (by omega))
 ·intro a o u;have P:=lG p d a o (j a u);have:=P.zt;obtain⟨T,-,U⟩:=sM (T:=b) (S:=aa b) (a:=a) (by omega) A t (BA b (aa b) a) ((aq (aa b) a).z-1) (by omega);refine⟨U,fun i O=>?_⟩
  show(aQ (dU b (aa b) a (BA b (aa b) a) ((aq (aa b) a).z-1)).st i).ref<=(a:Int)
  rcases(T i O).Ys with h | ⟨h,-⟩ | ⟨r,Q,M,-⟩
  ·rw[h];omega
  ·rw[h];omega
  ·rw[M];have:=Q.1;omega
theorem Gx(j:∀k d c,d[k]?=some false->(z3 k d c).1.length+2000*aU (z3 k d c).2<=c.length+2000*aU d)(f:Fs)(n:Nat):∀L,L.length<=n->∀d c,(di z3 f L d c).1.length+2000*aU (di z3 f L d c).2<=c.length+L.length+2000*aU d:=by
 induction n with
 | zero =>
  intro L m d c;cases L with
  | nil=>rw[di];simp
  | cons _ _=>simp at m
 | succ n p =>
  intro L m d c;cases L with
  | nil=>rw[di];simp
  | cons t r =>
   have g:r.length<=n:=(by simpa using m);rw[di.eq_def];simp only[List.length_cons];split
   ·split
    ·simp only;omega
    ·simp only[List.length_append,List.length_cons,List.length_nil];omega
   ·split
    ·have:=p r g d (c++[t]);rw[Uh,UK,UU]at this;omega
    ·split
     ·simp only[List.length_append,List.length_cons,List.length_nil];omega
     ·cases r with
      | nil=>simp only;omega
      | cons a r =>
       cases r with
       | nil=>simp only[List.length_append,List.length_cons,List.length_nil];omega
       | cons b r =>
        have i:r.length<=n:=(by simp at g;omega);simp only[List.length_cons];split
        ·simp only[List.length_append,List.length_cons,List.length_nil];omega
        ·split
         ·simp only[List.length_append,List.length_cons,List.length_nil];omega
         ·split
          ·have:=p r i d c;omega
          ·next l =>
           have o:d[(bR f a.s).toNat]?=some false:=by
            rw[Uc]at l;cases e:d[(bR f a.s).toNat]? with
            | none=>rw[e]at l;exact absurd rfl l
            | some x=>rw[e]at l;cases x;rfl;exact absurd rfl l
           have q:=j (bR f a.s).toNat d c o;split
           ·omega
           ·have:=p r i (z3 (bR f a.s).toNat d c).2 (z3 (bR f a.s).toNat d c).1;omega
theorem Gz(c:∀k,(ak H k).size<=1024)(n:Nat):∀k b a,b[k]?=some false->(eU H n k b a).1.length+2000*aU (eU H n k b a).2<=a.length+2000*aU b:=by
 induction n with
 | zero=>intro k b a _;rw[eU];simp
 | succ n e =>
  intro k b a d;rw[eU];have f:=Gx (eU H n) e H _ (sB H k) (Ue _) (b.set k true) a;have g:=EU H k;have i:=mm b k d;have j:=c k;omega
theorem J8(c:H.length<=4)(a:∀l,(ak H l).size<=1024)(d:l<H.length):(bL H l).1.length<=10000:=by
 have h:=Gz H a H.length l (List.replicate H.length false) [] (by rw[VC,Uf d]);rw[og]at h;have b:(qw H l).length<=10000:=by unfold qw;simp at h;omega
 unfold bL;split
 ·rw[VT];omega
 ·exact b
structure Rj(w:World)(v:Nat)(fs:Fs)(h:Hd)(T:List Tk)(lo hi b:Nat)(aT:Xu)(cT:Nat)(aS:Xu)(cS:Nat)(PS:List (jW×Hd))(h1:Hd)(RS:List iH)(h2:Hd):Prop where
 rv:gx w v fs h true (pointer (some ⟨b,0,none⟩)) (slice h1.ao PS.length h1.cap) (slice h2.ao RS.length h2.cap)
 db:ge w b T aT cT (aa T) aS cS
 ps:PS.map (·.1)=(List.range (aa T).length).map (pV (aa T) (Fg T (aa T)))
 YA:pI (aa T) PS ((List.range (aa T).length).map (mY T (aa T) (Cq T (aa T)))) RS (aa T).length
 s1:aB w h1 (gK PS)
 s2:aB w h2 (gD RS)
 sq:∀x∈PS,cN w x.2.ao 6 lp x.1.st
 nb:lo<=b/\b<hi
 nT:∀g,aT=some ⟨g,0,none⟩->lo<=g/\g<hi
 nS:∀g,aS=some ⟨g,0,none⟩->lo<=g/\g<hi
 n1:∀g,h1.Yv=some g->lo<=g/\g<hi
 n2:∀g,h2.Yv=some g->lo<=g/\g<hi
 nq:∀x∈PS,∀g,x.2.ao=some ⟨g,0,none⟩->lo<=g/\g<hi
def zB(w:World)(v:Nat)(fs:Fs)(h:Hd)(T:List Tk)(lo hi:Nat):Prop:=∃b aT cT aS cS PS h1 RS h2,Rj w v fs h T lo hi b aT cT aS cS PS h1 RS h2
theorem zB.Yu(a:zB n w d D y x u)(c:ae z7 n k)(C:w∉z7)(A:∀q,D.Yv=some q->q∉z7)(B:∀q,x<=q->q<u->q∉z7):zB k w d D y x u:=by
 obtain⟨b,o,r,m,p,j,v,l,z,a⟩:=a;have q:∀g,x<=g/\g<u->g∉z7:=fun g f=>B g f.1 f.2
 exact⟨b,o,r,m,p,j,v,l,z,{ a with
  rv:=a.rv.keptS c C A
  db:=⟨c.get a.db.d (q b a.nb),a.db.t.keptS c (fun g e=>q g (a.nT g e)),a.db.s.keptS c (fun g e=>q g (a.nS g e))⟩
  s1:=a.s1.Ym (fun g e=>c.block g (a.s1.lt e) (q g (a.n1 g e)))
  s2:=a.s2.Ym (fun g e=>c.block g (a.s2.lt e) (q g (a.n2 g e)))
  sq:=fun f i=>(a.sq f i).keptS c (fun g e=>q g (a.nq f i g e)) }⟩
theorem zB.rvAt(a:zB n w d D y x u):∃c e f,gx n w d D true c e f:=by
 obtain⟨b,k,m,j,l,g,o,i,p,a⟩:=a;exact⟨_,_,_,a.rv⟩
theorem Oa{X:World}{f:List (jW×Hd)}{m:List iH}{j:Hd}(a:xj n k w x I M f c m j)(i:ge k x y p y5 (aa y) y0 y6)(G:gx X w d D true (pointer (some ⟨x,0,none⟩)) (slice c.ao f.length c.cap) (slice j.ao m.length j.cap))(K:ae [w,u] k X)(N:w<t)(J:u<t)(r:t<=n.heap.size)(v:t<=x)(o:∀g,p=some ⟨g,0,none⟩->t<=g/\g<k.heap.size)(nS:∀g,y0=some ⟨g,0,none⟩->t<=g/\g<k.heap.size)(F:f.map (·.1)=(List.range (aa y).length).map (pV (aa y) (Fg y (aa y))))(A:pI (aa y) f ((List.range (aa y).length).map (mY y (aa y) (Cq y (aa y)))) m (aa y).length):zB X w d D y t X.heap.size:=by
 have z:=K.size;have q:∀g,t<=g->g∉[w,u]:=fun g L H=>by simp at H;omega
 have B:∀g,c.Yv=some g->t<=g/\g<X.heap.size:=fun g e=>⟨Un r (a.f1 g e),Ul (a.o1.lt e) z⟩
 have C:∀g,j.Yv=some g->t<=g/\g<X.heap.size:=fun g e=>⟨Un r (a.f2 g e),Ul (a.o2.lt e) z⟩
 have E:∀b∈f,∀g,b.2.ao=some ⟨g,0,none⟩->t<=g/\g<X.heap.size:=fun b l g e=>⟨Un r ((a.q b l).2 g e).1,Ul (a.ql b l g e) z⟩
 exact⟨x,p,y5,y0,y6,f,c,m,j,{
  rv:=G
  db:=⟨K.get i.d (q x v),i.t.keptS K (fun g e=>q g (o g e).1),i.s.keptS K (fun g e=>q g (nS g e).1)⟩
  ps:=F
  YA:=A
  s1:=a.o1.Ym (fun g e=>K.block g (a.o1.lt e) (q g (B g e).1))
  s2:=a.o2.Ym (fun g e=>K.block g (a.o2.lt e) (q g (C g e).1))
  sq:=fun b l=>(a.q b l).1.keptS K (fun g e=>q g (E b l g e).1)
  nb:=⟨v,Ul (aj i.d) z⟩
  nT:=fun g e=>⟨(o g e).1,Ul (o g e).2 z⟩
  nS:=fun g e=>⟨(nS g e).1,Ul (nS g e).2 z⟩
  n1:=B
  n2:=C
  nq:=E }⟩
def Tv(fs:Fs)(k v:Nat)(h:Hd)(f:pJ)(c:Int)(w:World)(e:Ending)(w':World):Prop :=
 e=returned (tuple #[iz f,int i64 c])/\((c=0->∃lo,w.heap.size<=lo/\zB w' v fs h (bL fs k).1 lo w'.heap.size)/\(c≠0->∃p2 p3 p4,gx w' v fs h false p2 p3 p4))/\ae [v] w w'
theorem gx.keptV{on':Bool}(a:gx n w d D z2 I M N)(f:ae [w] n k)(c:k.heap[w]?=some (.cells #[slice D.ao d.length D.cap,bool on',z5,y7,y9] 85)):gx k w d D on' z5 y7 y9 :=
 ⟨c,a.YF.Ym (fun q b=>f.block q (a.YF.lt b) (by simp;intro e;rw[e]at b;exact a.far b)),a.far,a.le⟩
theorem tY(h:∀j,j<d.length->(ak d j).size<=1024)(k:Nat):(ak d k).size<=1024:=by
 by_cases a:k<d.length
 ·exact h k a
 ·unfold ak;rw[Uc,UT (by omega)];show(0:Nat)<=1024;omega
theorem gx.Yq(a:gx n w d D z2 I M N)(c:w≠x)(b:∀q,D.Yv=some q->q≠x)(i:Nat)(u:Value):gx (n.setCell ⟨x,i,none⟩ u) w d D z2 I M N :=
 ⟨((ae.refl [x] n).sl1 _).get a.d (by simp;exact c),a.YF.Yq b i u,a.far,a.le⟩
theorem wR{c u0 u1 u2 u3:Value}(e:k.heap[w]?=some (.cells #[z5,y7,y9,c] 87))(g:gx k x d D z2 I M N)(l:x<w)(i:∀q,D.Yv=some q->q<w)(f:ae [x] n k)(b:n.heap.size<=w) :
  ((((k.setCell ⟨w,0,none⟩ u0).setCell ⟨w,1,none⟩ u1).setCell ⟨w,2,none⟩ u2).setCell ⟨w,3,none⟩ u3).heap[w]?=some (.cells #[u0,u1,u2,u3] 87)/\gx ((((k.setCell ⟨w,0,none⟩ u0).setCell ⟨w,1,none⟩ u1).setCell ⟨w,2,none⟩ u2).setCell ⟨w,3,none⟩ u3) x d D z2 I M N/\ae [x] n ((((k.setCell ⟨w,0,none⟩ u0).setCell ⟨w,1,none⟩ u1).setCell ⟨w,2,none⟩ u2).setCell ⟨w,3,none⟩ u3):=by
 refine⟨ab (ab (ab (ab e 0 u0) 1 u1) 2 u2) 3 u3,?_,(((f.setCell (Uo b) _).setCell (Uo b) _).setCell (Uo b) _).setCell (Uo b) _⟩;have a:∀q,D.Yv=some q->q≠w:=fun q j=>by have:=i q j;omega
 exact(((g.Yq (by omega) a _ _).Yq (by omega) a _ _).Yq (by omega) a _ _).Yq (by omega) a _ _
theorem nQ(h:n.heap[w]?=some (.cells #[I,M,N,z5] 87)) :
  (n.cell? ⟨w,0,none⟩=some I/\n.cell? ⟨w,1,none⟩=some M/\n.cell? ⟨w,2,none⟩=some N/\n.cell? ⟨w,3,none⟩=some z5)/\(n.frozen? ⟨w,0,none⟩=false/\n.frozen? ⟨w,1,none⟩=false/\n.frozen? ⟨w,2,none⟩=false/\n.frozen? ⟨w,3,none⟩=false)/\w<n.heap.size:=by
 refine⟨⟨?_,?_,?_,?_⟩,⟨am h 0,am h 1,am h 2,am h 3⟩,aj h⟩
 all_goals (rw[ah h];rfl)
theorem xM(c:H.length<=4)(d:∀j,j<H.length->(ak H j).size<=1024)(m:l<H.length)(f:((Af (bL H l).1 (aa (bL H l).1)).YE==0)=true)(b:((bL H l).2.YE==0)=true):gj H l=dh/\∀q,q<(bL H l).1.length->aY (bL H l).1 (aa (bL H l).1) q=0:=by
 obtain⟨e,g⟩:=xL H l c d m;have n:(gj H l).1=0:=by
  unfold gj;rw[Ud (by rw[f];simp)];exact WP b
 refine⟨?_,(g (by rw[e,n];rfl)).1.u⟩;have k:(bL H l).2=gO:=by
  unfold bL at b ⊢;split
  ·next a =>
   rw[Uf a]at b;unfold fm at a;cases i:(qw H l).getLast? with
   | none=>rw[i]at a;cases a
   | some t =>
    rw[i]at a b;simp only[Option.getD_some]at b;simp only at a;rw[b]at a;cases a
  ·rfl
 unfold gj;rw[Ud (by rw[f];simp),k];rfl
set_option maxRecDepth 100000
theorem zV(h:Hd)(u:Bool)(v x y:Value)(n:Xs)(w:World)(f:gx w z0 H h u v x y)(J:bR H n<0) :
  Calls prog 38 #[pointer (some ⟨z0,0,none⟩),string n] w fun e z=>e=returned (tuple #[iz dh,int i64 5])/\ae [] w z:=by
 obtain⟨W,j⟩:=bm (w.alloc (.cells #[int i64 0,string ⟨#[]⟩,int i64 0,int i64 0] 87));have a:Xr _:=fg j.o;have k:Xr _:=fE j.o;have b:Xr _:=f.Yh a.o;have i:Xr _:=(nD H h.ao h.cap n W (by have:=f.le;omega) b.o.YF.srcFi);have K:W.cell? ⟨z0,0,none⟩=some (slice h.ao H.length h.cap):=by rw[ah b.o.d];rfl
 obtain⟨⟨E,F,G,I⟩,⟨A,B,C,D⟩,M⟩:=nQ k.o;have c:Xr (z0<w.heap.size/\∀q,h.Yv=some q->q<w.heap.size):=⟨aj f.d,fun q t=>f.YF.lt t⟩;clear f;go_enter func38,ntmps38;go_upto_region 1 with fail
 rw[j.o];go_wp2_with (go_at_call 36;refine Ug i.o ?_;rintro e L ⟨rfl,g⟩;rw[g];clear g);obtain⟨l,-,-⟩:=wR (u0:=int i64 0) (u1:=string ⟨#[]⟩) (u2:=int i64 0) (u3:=int i64 0) k.o b.o c.o.1 c.o.2 (pQ a.o) (Ue _);obtain⟨⟨m,p,r,s⟩,-,-⟩:=nQ l;exact Um (v:=tuple #[agg #[int i64 0,string ⟨#[]⟩,int i64 0,int i64 0],int i64 5]) (by simp[results,results38,go_sem,m,p,r,s]) rfl ⟨rfl,(((a.o.sr1 (Ue _) _).sr1 (Ue _) _).sr1 (Ue _) _).sr1 (Ue _) _⟩
theorem CI(a:Fs)(h:Hd)(on:Bool)(p2 p3 p4:Value)(n:Xs)(w:World)(hR:gx w v a h on p2 p3 p4)(hf:bR a n=(l:Int))(hk:l<a.length)(Z:∀j,j<a.length->(ak a j).size<=1024) :
  Calls prog 38 #[pointer (some ⟨v,0,none⟩),string n] w fun e w'=>Tv a l v h (gj a l) (if((gj a l).1==0)=true then 0 else 6) w e w':=by
 unfold Tv;have az:=hR.le;obtain⟨ce,k⟩:=h;obtain⟨gf,ax,cf,-⟩:=hR.YF.srcFi.2 l hk;replace ax:ce=some ⟨gf,0,none⟩:=ax;subst ax;obtain⟨W,HW⟩:=bm (w.alloc (.cells #[int i64 0,string ⟨#[]⟩,int i64 0,int i64 0] 87));have bc:Xr _:=fg HW.o;have BF:Xr _:=fE HW.o;have C:Xr _:=hR.Yh bc.o;have a7:Xr _:=(nD a (some ⟨gf,0,none⟩) k n W (by omega) C.o.YF.srcFi);rw[hf]at a7;have v0:W.cell? ⟨v,0,none⟩=some (slice (some ⟨gf,0,none⟩) a.length k):=by rw[ah C.o.d];rfl
 have v1:W.cell? ⟨v,1,none⟩=some (bool on):=by rw[ah C.o.d];rfl
 have e1:=am C.o.d 1;have c:Xr (v<w.heap.size/\∀q,(⟨some ⟨gf,0,none⟩,k⟩:Hd).Yv=some q->q<w.heap.size):=⟨aj hR.d,fun q hq=>hR.YF.lt hq⟩;obtain⟨L,Q⟩:=bm (W.setCell ⟨v,1,none⟩ (bool false));have O:Xr (gx L v a ⟨some ⟨gf,0,none⟩,k⟩ false p2 p3 p4):=by show gx _ _ _ _ _ _ _ _;rw[<-Q.o];exact C.o.off
 have an:Xr (ae [v] w L):=by show ae _ _ _;rw[<-Q.o];exact(pQ bc.o).sl1 _
 have a0:Xr (L.heap[w.heap.size]?=some (.cells #[int i64 0,string ⟨#[]⟩,int i64 0,int i64 0] 87)):=by
  show _=_;rw[<-Q.o];exact((ae.refl [v] _).sl1 _).get BF.o (by have:=c.o.1;simp;omega)
 have N:Xr _:=J9 a gf k l L az (tY Z) hk O.o.YF.srcFi (O.o.YF.lt rfl);have ch:L.cell? ⟨v,0,none⟩=some (slice (some ⟨gf,0,none⟩) a.length k):=by rw[ah O.o.d];rfl
 have P:Xr _:=Dw a l (tY Z);have z:Xr _:=J8 a l az (tY Z) hk;have A:Xr _:=xM a l az Z hk;have y:Xr (gj a l=if((Af (bL a l).1 (aa (bL a l).1)).YE==0)=false then Nc (Af (bL a l).1 (aa (bL a l).1)) else Nc (bL a l).2):=rfl;obtain⟨f,Hf⟩:=bm (gj a l);rw[Hf.o]at y A ⊢;obtain⟨cc,S⟩:=bm ((if(f.1==0)=true then(0:Int) else 6));rw[S.o];obtain⟨⟨T,t⟩,b6⟩:∃Tt,Xr (bL a l=Tt):=⟨_,rfl⟩
 rw[b6.o]at N P z A y ⊢;simp only at N P z A y ⊢;obtain⟨u,Hu⟩:=bm (Af T (aa T));rw[Hu.o]at A y;have bk:Xr (∀i,(tS T i).size<=1073741824):=fun i=>by
  unfold tS;rw[Uc];cases e:T[i]? with
  | none=>show(0:Nat)<=_;omega
  | some t=>have:=(P.o t (Vq e)).1;show t.s.size<=_;omega
 clear hR cf hf;go_enter func38,ntmps38;go_upto_region 1 with fail
 rw[HW.o];go_upto_region 5 with (go_at_call 36;refine Ug a7.o ?_;rintro e w9 ⟨rfl,bo⟩;rw[bo];clear bo)
 rw[Q.o];clear v0 v1 e1;obtain⟨ts,tr,tf,tl,tc⟩:=t;obtain⟨us,ur,uf,ul,uc⟩:=u;simp only at N;go_upto_region 6 with (go_at_call 55;refine Ug N.o ?_;rintro e w7 ⟨aT,cT,rfl,sT,k7,n7⟩)
 obtain⟨X,G⟩:=bm (w7.alloc (.cells #[int i64 tr,string tf,int i64 tl,int i64 tc] 87));have ba:Xr (ae [] L X):=by show ae _ _ _;rw[<-G.o];exact k7.alloc _
 have bs:Xr _:=fE G.o;have R:Xr (w7.heap.size<=X.heap.size/\L.heap.size<=X.heap.size):=⟨by rw[<-G.o];simp,ba.o.size⟩;have bd:Xr _:=n7;have b5:Xr _:=(NI T aT cT X (lX.Yh sT (by rw[<-G.o];exact bM.alloc _)) (by have:=z.o;omega) bk.o);rw[G.o];clear sT k7 ch n7;go_upto_region 7 with (go_at_call 56;refine Ug b5.o ?_;rintro e w9 ⟨rfl,aS,cS,d9,k9,n9⟩)
 have al:Xr _:=(xR X.heap.size T aT cT (aa T) aS cS w9 d9 (by have:=z.o;omega) (Rc T (by have:=z.o;omega)) bk.o);rw[Hu.o]at al;simp only at al;have bf:Xr (∀g,aT=some ⟨g,0,none⟩->L.heap.size<=g/\g<w9.heap.size):=fun g J=>⟨(bd.o g J).1,Ul (bd.o g J).2 (Un R.o.1 k9.size)⟩
 have be:Xr (∀g,aS=some ⟨g,0,none⟩->L.heap.size<=g/\g<w9.heap.size):=fun g J=>⟨Un R.o.2 (n9 g J).1,(n9 g J).2⟩
 have b2:Xr _:=ba.o.trans k9;have bv:Xr _:=(k9.get bs.o (by simp));have ca:Xr _:=k9.size;have bx:Xr _:=d9;clear d9 k9 n9;go_upto_region 8 with (go_at_call 57;refine Ug al.o ?_;rintro e cj ⟨rfl,br⟩)
 obtain⟨U,D⟩:=bm (cj.alloc (.cells #[int i64 ur,string uf,int i64 ul,int i64 uc] 87));have a2:Xr _:=fE D.o;have x:Xr (ae [] w9 U):=by show ae _ _ _;rw[<-D.o];exact br.alloc _
 have B:Xr _:=b2.o.trans x.o;have a5:Xr _:=ge.Yh bx.o x.o;have bw:Xr _:=(x.o.get bv.o (by simp));have b:Xr _:=O.o.Yh B.o;have M:Xr _:=(B.o.get a0.o (by simp));have ao:Xr _:=an.o.trans (pQ B.o);rw[D.o];clear br;obtain⟨⟨u0,u1,u2,u3⟩,-,uz⟩:=nQ a2.o;obtain⟨⟨t0,t1,t2,t3⟩,-,tz⟩:=nQ bw.o;obtain⟨⟨g0,g1,g2,g3⟩,⟨f0,f1,f2,f3⟩,wz⟩:=nQ M.o;cases hu:(ur==0)
 ·have HX:Xr (f=(ur,⟨uf,ul,uc⟩)):=by show _=_;rw[y.o];exact Uf hu
  have HC:Xr (cc=6):=cM (by rw[<-S.o,HX.o];exact Ud (fun q=>by have q':(ur==0)=true:=q;rw[hu]at q';cases q'));go_wp2;obtain⟨B1,R1,K1⟩:=wR (u0:=int i64 ur) (u1:=string uf) (u2:=int i64 ul) (u3:=int i64 uc) M.o b.o c.o.1 c.o.2 ao.o (Ue _);obtain⟨⟨c0,c1,c2,c3⟩,-,-⟩:=nQ B1;exact Um (v:=tuple #[agg #[int i64 ur,string uf,int i64 ul,int i64 uc],int i64 6]) (by simp[results,results38,go_sem,c0,c1,c2,c3]) rfl (by rw[HC.o,HX.o];exact⟨rfl,⟨(fun q=>by cases q),fun _=>⟨_,_,_,R1⟩⟩,K1⟩)
 ·cases ht:(tr==0)
  ·have HX:Xr (f=(tr,⟨tf,tl,tc⟩)):=(by show _=_;rw[y.o];exact Ud (fun q=>by have q':(ur==0)=false:=q;rw[hu]at q';cases q'));have HC:Xr (cc=6):=cM (by rw[<-S.o,HX.o];exact Ud (fun q=>by have q':(tr==0)=true:=q;rw[ht]at q';cases q'));go_wp2;obtain⟨B1,R1,K1⟩:=wR (u0:=int i64 tr) (u1:=string tf) (u2:=int i64 tl) (u3:=int i64 tc) M.o b.o c.o.1 c.o.2 ao.o (Ue _);obtain⟨⟨c0,c1,c2,c3⟩,-,-⟩:=nQ B1;exact Um (v:=tuple #[agg #[int i64 tr,string tf,int i64 tl,int i64 tc],int i64 6]) (by simp[results,results38,go_sem,c0,c1,c2,c3]) rfl (by rw[HC.o,HX.o];exact⟨rfl,⟨(fun q=>by cases q),fun _=>⟨_,_,_,R1⟩⟩,K1⟩)
  ·obtain⟨bl,ag⟩:=A.o hu ht;have a1:Xr _:=ag;have HX:Xr _:=bl;have HC:Xr (cc=0):=cM (by rw[<-S.o,HX.o];rfl);clear bl ag;have x2:U.cell? ⟨v,2,none⟩=some p2:=(by rw[ah b.o.d];rfl);have y2:=am b.o.d 2;have Y:=ab b.o.d 2 (pointer (some ⟨X.heap.size,0,none⟩));obtain⟨V,E⟩:=bm (U.setCell ⟨v,2,none⟩ (pointer (some ⟨X.heap.size,0,none⟩)));rw[E.o]at Y;have m:Xr (ae [v] U V):=(by show ae _ _ _;rw[<-E.o];exact(ae.refl [v] _).sl1 _);have ad:Xr _:=ge.off a5.o b.o.d m.o;have a3:Xr _:=(m.o.get M.o (by have:=c.o.1;simp;omega));have af:Xr _:=gx.keptV (on':=false) b.o m.o Y;have bT:Xr _:=FV v X.heap.size T aT cT aS cS _ _ _ _ _ _ V Y ad.o z.o P.o a1.o;clear Y;(go_upto_region 13 with fail);rw[E.o];clear x2 y2 u0 u1 u2 u3 uz t0 t1 t2 t3 tz g0 g1 g2 g3 f0 f1 f2 f3 wz;(go_upto_region 14 with (go_at_call 58;refine Ug bT.o ?_;rintro e K ⟨PS,j1,j2,RS,rfl,bp,ai,jw⟩));have a4:Xr _:=(jw.Yu.get a3.o (by have:=c.o.1;simp;omega));have I:=jw.d;have H:=jw.Yu;have bg:Xr _:=gx.keptV (on':=false) af.o H I;have b3:Xr _:=(ao.o.trans m.o).trans H;have b1:Xr _:=jw;have b0:Xr _:=bp;have bz:Xr _:=ai;have a6:Xr _:=ge.off ad.o af.o.d H;have ap:Xr (w9.heap.size<=V.heap.size/\V.heap.size<=K.heap.size/\X.heap.size<=w9.heap.size):=⟨Un x.o.size m.o.size,H.size,ca.o⟩;have x1:K.cell? ⟨v,1,none⟩=some (bool false):=(by rw[ah I];rfl);have y1:=am I 1;have ar:=ab I 1 (bool true);obtain⟨cb,F⟩:=bm (K.setCell ⟨v,1,none⟩ (bool true));rw[F.o]at ar;have r:Xr (ae [v] K cb):=(by show ae _ _ _;rw[<-F.o];exact(ae.refl [v] _).sl1 _);have bj:Xr _:=gx.keptV (on':=true) bg.o r.o ar;have ac:Xr _:=(r.o.get a4.o (by have:=c.o.1;simp;omega));have b4:Xr _:=b3.o.trans r.o;clear jw bp ai I H ar;(go_upto_region 15 with fail);rw[F.o];clear x1 y1;obtain⟨⟨g0,g1,g2,g3⟩,⟨f0,f1,f2,f3⟩,wz⟩:=nQ ac.o;go_wp2;obtain⟨B1,R1,K1⟩:=wR (u0:=int i64 0) (u1:=string ⟨#[]⟩) (u2:=int i64 0) (u3:=int i64 0) ac.o bj.o c.o.1 c.o.2 b4.o (Ue _);have KX:ae [v,w.heap.size] K _:=((((r.o.mono (S':=[v,w.heap.size]) (fun q hq _=>by rw[Uq.1 hq];exact UN)).setCell (p:=⟨w.heap.size,0,none⟩) (Us (by simp)) (int i64 0)).setCell (p:=⟨w.heap.size,1,none⟩) (Us (by simp)) (string ⟨#[]⟩)).setCell (p:=⟨w.heap.size,2,none⟩) (Us (by simp)) (int i64 0)).setCell (p:=⟨w.heap.size,3,none⟩) (Us (by simp)) (int i64 0);obtain⟨⟨c0,c1,c2,c3⟩,-,-⟩:=nQ B1;exact Um (v:=tuple #[agg #[int i64 0,string ⟨#[]⟩,int i64 0,int i64 0],int i64 0]) (by simp[results,results38,go_sem,c0,c1,c2,c3]) rfl (by rw[HC.o,HX.o];exact⟨rfl,⟨fun _=>⟨L.heap.size,an.o.size,Oa b1.o a6.o R1 KX (Ul c.o.1 an.o.size) (aj a0.o) (by have:=R.o;have:=ap.o;omega) R.o.2 (fun g J=>⟨(bf.o g J).1,by have:=(bf.o g J).2;have:=ap.o;omega⟩) (fun g J=>⟨(be.o g J).1,by have:=(be.o g J).2;have:=ap.o;omega⟩) b0.o bz.o⟩,fun q=>absurd rfl q⟩,K1⟩)
theorem FG(h:l<v):aF (H.take v) l=aF H l/\ak (H.take v) l=ak H l:=by
 unfold aF ak;rw[Uc,Wu,Uf h,Uc];exact⟨rfl,rfl⟩
theorem om.take(h:om n p w d)(k:Nat)(f:k<=d.length):om n p w (d.take k):=by
 have b:(d.take k).length=k:=by rw[U6];omega
 refine⟨by rw[b];exact Un f h.1,fun j a=>?_⟩;rw[b]at a;obtain⟨c,e⟩:=FG d k j a;rw[c,e];exact h.2 j (by omega)
theorem M8(h:om n (some ⟨w,0,none⟩) x d)(j:Nat)(u:Value)(a:(rY d)[j]?=some u):n.cell? ⟨w,j,none⟩=some u:=by
 have k:j<d.length*2:=by
  rw[<-wQ];exact(Uk.1 a).1
 obtain⟨i,e,-,b,c⟩:=h.2 (j / 2) (by omega);cases e
 obtain⟨f,g⟩:=xN d (j / 2) (by omega);rcases XF j with e | e
 ·rw[show j / 2*2=j by omega]at b f;rw[f]at a;rw[b,<-a]
 ·rw[show j / 2*2+1=j by omega]at c g;rw[g]at a;rw[c,<-a]
def Sw(w:World)(v:Nat)(h:Hd)(fs:Fs)(p2 p3 p4:Value)(r:Int)(w':World):Prop:=(r=0->∃h',gx w' v fs h' false p2 p3 p4/\ae (v :: h.Yv.toList) w w'/\∀b,h'.Yv=some b->h.Yv=some b∨w.heap.size<=b)/\(r≠0->ae [] w w')
theorem Sw.stay{r:Int}(a:r≠0)(b:ae [] n k):Sw n w D d I M N r k:=⟨fun e=>absurd e a,fun _=>b⟩
theorem gx.newRow{b:Fs}(a:gx n w d D z2 I M N)(p:ae [] n k)(o:aB k c (de b))(j:∀q,c.Yv=some q->n.heap.size<=q)(l:b.length<=4)(m:x=b.length):gx (k.setCell ⟨w,0,none⟩ (slice c.ao x c.cap)) w b c z2 I M N:=by
 have i:=p.get a.d (by simp);have t:=aj a.d;have f:c.Yv≠some w:=fun s=>by have:=j w s;omega
 have r:ae [w] k (k.setCell ⟨w,0,none⟩ (slice c.ao x c.cap)):=(ae.refl _ _).sl1 _;subst m;exact⟨by rw[ab i];rfl,o.Ym (fun q g=>r.block q (o.lt g) (by simp;intro e;exact f (by rw[<-e];exact g))),f,l⟩
theorem F3(a:Fs)(h:Hd)(on:Bool)(p2 p3 p4:Value)(E:Xu)(i:Nat)(w:World)(hR:gx w z0 H h on p2 p3 p4)(hS:om w E i a)(hn:E=none->a.length=0/\i=0)(ha:∀B,E=some B->∃g,B=⟨g,0,none⟩)(P:∀j,j<a.length->(aF a j).size<=1073741824/\(ak a j).size<=1073741824) :
  Calls prog 32 #[pointer (some ⟨z0,0,none⟩),slice E a.length i] w fun e t=>e=returned (int i64 (dR a))/\Sw w z0 h (j8 H a) p2 p3 p4 (dR a) t:=by
 have HR:Xr _:=hR;by_cases h4:4<a.length
 ·have G:Xr (dR a=1):=by show _=_;unfold dR;rw[Uf h4]
  rw[G.o];have an:(4:Int)<a.length:=by omega
  clear hR;go_enter func32,ntmps32;go_wp2;go_ret;exact⟨rfl,Sw.stay (by decide) (ae.refl _ _)⟩
 ·have G:Xr (dR a=dn (Fe a) a.length):=by show _=_;unfold dR;rw[Ud h4]
  obtain⟨r,Hr⟩:=bm (dR a);rw[Hr.o]at G ⊢;have an:¬(4:Int)<a.length:=by omega
  have V:Xr _:=hS;have HN:Xr _:=hn;have X:Xr _:=ha;have K:Xr _:=P;obtain⟨iF,aS,R,S,T⟩:=UC BI;clear hR hS hn ha P;go_enter func32,ntmps32;go_wp2
  go_loopg [5] a.length (fun g iv wr=>∃k:Nat,k<=a.length/\g=a.length-k/\iv=int i64 k/\Xr (dn (Fe a) k=0)/\Xr (ae [] w wr))
  ·exact⟨0,by omega,rfl,rfl,rfl,ae.refl _ _⟩
  obtain⟨k,hk,hg,rfl,HZ,x⟩:=hrel;rcases kn k a.length with ⟨s,a2⟩ | ⟨s,-⟩
  ·have a1:(0:Int)<=(k:Int):=(by omega);have a0:=V.o.1;obtain⟨C,rfl,y,c0,c1⟩:=(om.Yh V.o x.o).2 k s;have HC:Xr (∀t,ae [] wr t->t.cell? ⟨C,k*2,none⟩=some (string (aF a k))/\t.cell? ⟨C,k*2+1,none⟩=some (string (ak a k))/\C<t.heap.size):=fun t kw=>⟨by rw[Uw (kw.block C y (by simp))];exact c0,by rw[Uw (kw.block C y (by simp))];exact c1,Ul y kw.size⟩
   have z:Xr (∀v,ae [] wr v->Calls prog 36 #[slice (some ⟨C,0,none⟩) k i,string (aF a k)] v fun e t=>e=returned (int i64 (bR (a.take k) (aF a k)))/\t=v):=fun v kx=>by
    have hl:(a.take k).length=k:=(by rw[U6];omega);have:=nD (a.take k) (some ⟨C,0,none⟩) i (aF a k) v (by omega) (om.take (om.Yh V.o (x.o.trans kx)) k hk);rw[hl]at this;exact this
   have F:Xr (∀v,Calls prog 35 #[string (aF a k),string (ak a k)] v fun e t=>e=returned (int i64 (du (aF a k) (ak a k)))/\t=v):=fun v=>Dv _ _ v (K.o k s).1 (by have:=(K.o k s).2;omega);have l:Xr (Fe a k=if(du (aF a k) (ak a k)==0)=false then du (aF a k) (ak a k) else if 0<=bR (a.take k) (aF a k) then 4 else 0):=rfl;have J:Xr ((Fe a k==0)=false->r=Fe a k):=fun q=>by rw[G.o];exact nj HZ.o q s
   have Y:Xr (Fe a k=0->dn (Fe a) (k+1)=0):=fun q=>by rw[dn,HZ.o];exact q
   generalize aF a k=nm at *;generalize ak a k=dt at *;obtain⟨ck,ai⟩:=bm (du nm dt);rw[ai.o]at F l;obtain⟨fi,al⟩:=bm (bR (a.take k) nm);rw[al.o]at z l;(go_upto_region 6 with fail);go_region_with (go_at_call 35;refine(F.o _).mono ?_;rintro e U ⟨rfl,aT⟩)
   all_goals
    subst aT;obtain⟨U,H9⟩:=bm (wr.drew);rw[H9.o];have f:Xr (ae [] wr U):=by show ae _ _ _;rw[<-H9.o];exact(ae.refl [] wr).drew
    clear c0 c1 y;cases c:(ck==0)
    ·rw[c,Uf rfl]at l;have p:Xr _:=(J.o (by rw[l.o];exact c));rw[l.o]at p;have az:(ck != 0)=true:=(by unfold bne;rw[c];rfl);go_wp2;go_ret;exact⟨T0 p.o.symm,Sw.stay (by rw[p.o];exact fun q=>by rw[q]at c;cases c) (x.o.trans f.o)⟩
    ·rw[c,Ud (by simp)]at l;have az:(ck != 0)=false:=(by unfold bne;rw[c];rfl);obtain⟨d0,d1,d2⟩:=HC.o U f.o;by_cases N:0<=fi
     ·rw[Uf N]at l;have p:Xr _:=(J.o (by rw[l.o];rfl));rw[l.o]at p;(go_upto_region 9 with fail);go_region_with (go_at_call 36;refine(z.o _ (by exact f.o.drew)).mono ?_;rintro e w8 ⟨rfl,D⟩)
      all_goals
       subst D;have A:Xr (ae [] w U.drew):=(x.o.trans f.o).drew;go_wp2;go_ret;exact⟨T0 p.o.symm,Sw.stay (by rw[p.o];decide) A.o⟩
     ·rw[Ud N]at l;have HM:Xr _:=Y.o l.o;(go_upto_region 9 with fail);go_region_with (go_at_call 36;refine(z.o _ (by exact f.o.drew)).mono ?_;rintro e w8 ⟨rfl,D⟩)
      all_goals
       subst D;have A:Xr (ae [] w U.drew):=(x.o.trans f.o).drew;go_wp2;go_roundg (a.length-(k+1))
       ·exact⟨k+1,by omega,rfl,by go_num,HM,A⟩
       omega
  ·have e:k=a.length:=(by omega);subst e;have p:Xr (r=0):=cM (by rw[G.o];exact HZ.o);have a3:¬(a.length:Int)<a.length:=by omega
   have I:Xr _:=HR.o.Yh x.o;have ar:aB wr ⟨none,0⟩ (de []):=Uj _ _ _ _;have af:Xr _:=om.Yh V.o x.o;have ax:Xr (∀B,E=some B->∀j u,(rY a)[j]?=some u->wr.cell? (B.add j)=some u):=fun B e j u hu=>by
    obtain⟨g,rfl⟩:=X.o B e;rw[bS];exact M8 (by rw[<-e];exact af.o) j u hu
   have ap:Xr ((de ([]:Fs)).n+a.length<=1000000000):=(by show 0+a.length<=_;omega);have ac:Xr (∀m:Nat,(de ([]:Fs)).n+m=m):=fun m=>V3 m;(go_upto_region 12 with fail);go_wp2_with (at_builtin;refine dW _ rfl (.const (slice none 0 0)) (.tmp 43) 33 rfl iF (agg #[string ⟨#[]⟩,string ⟨#[]⟩]) 32 ⟨none,0⟩ (de []) underlying33 aS R S T rfl Xo rfl ar E a.length i (rY a) rfl (wQ a) HN.o ax.o (IL a) ap.o (by omega) ?_;intro h5 w5 Q O;have K5:ae [] wr w5:=(O.Yu.mono (by simp[Hd.Yv]));have L:=K5.get I.o.d (by simp);have v0:w5.cell? ⟨z0,0,none⟩=some (slice h.ao H.length h.cap):=(by rw[ah L];rfl);have v1:w5.cell? ⟨z0,1,none⟩=some (bool on):=(by rw[ah L];rfl);have e0:=am L 0;have e1:=am L 1;have vz:=aj L);go_ret;have er:(⟨(de []).e,(de []).size,(de []).n+a.length,(de []).xs++rY a⟩:ew)=de a:=by
    show ew.mk _ _ (0+a.length) ([]++rY a)=_;rw[V3];rfl
   rw[er]at Q;have M:∀q,h5.Yv=some q->wr.heap.size<=q:=by
    intro q W;rcases O.Yv with e | ⟨g,e,hg⟩
    ·rw[e]at W;cases W
    ·rw[e]at W;cases W;exact hg
   have Z:=(I.o.newRow K5 Q M (by omega) (ac.o a.length)).off;have ag:Xr _:=As (fs0:=H) (Hr.o.trans p.o);exact⟨T0 p.o.symm,by rw[ag.o];exact⟨fun _=>⟨h5,Z,(((x.o.trans K5).mono (by simp)).sl1 _).sl1 _,fun b hb=>Uo (Un x.o.size (M b hb))⟩,fun q=>absurd p.o q⟩⟩
end Go.Proofs.YtnbhnocdhbcbcaaGreat

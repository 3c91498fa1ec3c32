import Derived.Test.YtpdholcaobgofaaGreatP02
import Derived.Test.YtpdholcaobgofaaGreatP23
import Derived.Test.YtpdholcaobgofaaGreatP27
namespace Go.Proofs.YtpdholcaobgofaaGreat
open Go.RowKit Tryz
open Value IntKind Ending
set_option maxHeartbeats 0
variable{i z4:Xr}{w x u t zf y0:Nat}{z1:Xs}{y:List Tk}{z6:Tk}{o:List Sm}{n k:World}{p z8:Xt}{z7:Xu}{I M N z5 y5 y6:Value}{d:Fs}{D c:Hd}{z2:Bool}(z0:Nat)(H:Fs)(g L:Xr)(v l:Nat)(b:List Tk)(z3:Nat->List Bool->List Tk->List Tk×List Bool)
theorem kj{l m:List UInt8}(h:(i.toList==l)=true):(i.toList==m)=(l==m):=by
 have:i.toList=l:=by simpa using h
 rw[this]
section
variable {T:List Tk} {S:List Sm} {f:Nat}
structure zJ(T:List Tk)(S:List Sm)(j:Nat):Prop where
 le:(ay S j).h<=(ay S j).z-1
 zt:(ay S j).z<=T.length
 pos:0<(ay S j).z
 dot:((tS T ((ay S j).z-1)).toList == [36,46])=true
 cl:jJ (ay S j).k (fM T (ay S j).h ((ay S j).z-1))=0
 w:∀q,(ay S j).h<=q->q<(ay S j).z-1->nV T S (ay S j).k (tS T q) j (fM T (ay S j).h q)=0/\cD (tS T q)=false
theorem rK(p:Jl T T.length S f)(c:∀q,q<T.length->bG T S q=0)(j:Nat)(h:j<S.length)(u:cD (ay S j).k=false):zJ T S j:=by
 have t:=Nl p j h;obtain⟨P,o⟩:=p.s j h;have b:(ay S j).h<=(ay S j).z-1->(ay S j).a<(ay S j).h->zJ T S j:=fun l A=>by
  have B:=P.lt;have r:=c ((ay S j).z-1) (by omega);rw[t ((ay S j).z-1) (by omega) (by omega),Xz (by omega),Xz (by omega)]at r;obtain⟨v,w⟩:=A7 P.e r;refine⟨l,o,by omega,v,w,fun q F y=>?_⟩;have Q:=c q (by omega);rw[t q (by omega) (by omega),Xz (by omega),Xz (by omega)]at Q;exact⟨Q,P.n q (by omega) y⟩
 have d:=P.k;have G:=P.lt;unfold eQ at d;by_cases g:(jC (tS T (ay S j).a) ⟨#[36]⟩||decide (T.length<=(ay S j).a+1))=true
 ·rw[XA g]at d;have i:(ay S j).k=tS T (ay S j).a:=congrArg Prod.fst d;have x:(ay S j).h=(ay S j).a+1:=congrArg Prod.snd d;refine b ?_ (by omega);by_cases C:(ay S j).z-1=(ay S j).a
  ·have:=P.e;rw[C,<-i,u]at this;cases this
  ·omega
 ·rw[Xz g]at d;have i:(ay S j).k=tS T ((ay S j).a+1):=congrArg Prod.fst d;have x:(ay S j).h=(ay S j).a+2:=congrArg Prod.snd d;have m:jC (tS T (ay S j).a) ⟨#[36]⟩=false:=by
   cases e:jC (tS T (ay S j).a) ⟨#[36]⟩
   ·rfl
   ·rw[e]at g;exact absurd rfl g
  refine b ?_ (by omega);have D:(ay S j).z-1≠(ay S j).a:=fun e=>by
   have:=(mx P.e).1;rw[e,m]at this;cases this
  have E:(ay S j).z-1≠(ay S j).a+1:=fun e=>by
   have:=P.e;rw[e,<-i,u]at this;cases this
  omega
theorem vT(T:List Tk)(h i q:Nat)(a:h+q<i)(b:i<=T.length):(fM T h i).getD q ⟨#[]⟩=tS T (h+q):=by
 unfold fM tS;rw[Xw,Yi,ZH,XA (by omega),Zb,Xw];rw[Xv (by omega)];rfl
theorem sJ(T:List Tk)(h i:Nat)(a:h<=i)(b:i<=T.length):(fM T h i).length=i-h:=by
 unfold fM;rw[XZ,YL,Ym];omega
theorem Bq(P:zJ T S w):bC T (ay S w).h=(fM T (ay S w).h ((ay S w).z-1)).takeWhile kL:=by
 have i:=P.zt;have g:=P.pos;have c:=P.le;unfold bC;have e:T.drop (ay S w).h=(T.drop (ay S w).h).take ((ay S w).z-1-(ay S w).h)++(T.getD ((ay S w).z-1) kg) :: T.drop (ay S w).z:=by
  conv=>lhs;rw[<-Z5 ((ay S w).z-1-(ay S w).h) (T.drop (ay S w).h)]
  rw[List.drop_drop,show(ay S w).h+((ay S w).z-1-(ay S w).h)=(ay S w).z-1 by omega,Mk T ((ay S w).z-1) (by omega),show(ay S w).z-1+1=(ay S w).z by omega]
 rw[e,show ∀(L:List Tk) (t:Tk) (M:List Tk),L++t :: M=(L++[t])++M from fun L t M=>by simp,CK]
 ·rw[vU _ _ (fun u f=>?_) P.dot]
  ·rfl
  ·obtain⟨q,d,a⟩:=Yr f;rw[YL,Ym]at d;have:=(P.w ((ay S w).h+q) (by omega) (by omega)).2;unfold cD at this;simp only[Bool.or_eq_false_iff]at this;have b:u.s=tS T ((ay S w).h+q):=by
    rw[<-a,List.getElem_take,Z8];unfold tS;rw[Xw,Xv (by omega)];rfl
   rw[b];exact this.1.1
 ·exact⟨T.getD ((ay S w).z-1) kg,by simp,wW P.dot⟩
theorem um(P:zJ T S w):dA T (ay S w).h:=⟨(ay S w).z-1,P.le,by have:=P.zt;have:=P.pos;omega,wW P.dot⟩
theorem zu(h:nV T S i z4 w z1=0)(a:(z4.toList == [36,61])=true):(i.toList == [36,112])=true/\aN z1 ⟨#[36,61]⟩=false/\z1.length≠0:=by
 unfold nV at h;rw[kj a (m:=[36,46]),Xz (by decide),a,Y0]at h;cases b:(i.toList == [36,112])
 ·rw[b,Zz,Xz (by simp),XA (by rw[sY a];decide +kernel)]at h;cases h
 ·cases c:aN z1 ⟨#[36,61]⟩
  ·rw[b,c]at h;by_cases d:z1.length=0
   ·rw[XA (by rfl),XA d]at h;cases h
   ·exact⟨rfl,rfl,d⟩
  ·rw[b,c,Xz (by decide),XA (by rw[sY a];decide +kernel)]at h;cases h
end
section
variable {T:List Tk} {S:List Sm} {f:Nat}
theorem Ea(T:List Tk)(h:Nat):fM T h h=[]:=by unfold fM;rw[YA];simp
theorem zx(P:zJ T S w):0<(fM T (ay S w).h ((ay S w).z-1)).length/\(((ay S w).k.toList == [36,102])=true->1<(fM T (ay S w).h ((ay S w).z-1)).length):=by
 have a:=P.cl;unfold jJ at a;split at a
 ·cases a
 ·next e =>
  split at a
  ·cases a
  ·next b =>
   refine⟨by omega,fun c=>?_⟩;have:¬(fM T (ay S w).h ((ay S w).z-1)).length<2:=fun d=>b (by rw[c];simp[d]);omega
theorem D0(c:w<=x)(a:x<=T.length)(f:aN (fM T w x) i=true):∃q,w<=q/\q<x/\tS T q=i:=by
 unfold aN at f;obtain⟨y,k,e⟩:=Yu.1 f;obtain⟨q,d,g⟩:=Yr k;rw[sJ T w x c a]at d;refine⟨w+q,by omega,by omega,?_⟩;have b:=vT T w x q (by omega) a;rw[Xw,Xv (by rw[sJ T w x c a];exact d)]at b;have j:(fM T w x)[q]=tS T (w+q):=b;rw[<-j,g];have:y.toList=i.toList:=by simpa using e
 apply Zbc;apply Zaw.1;rw[<-YK,<-YK,this]
theorem yb(P:zJ T S w)(d:((ay S w).k.toList == [36,112])=false):bC T (ay S w).h=fM T (ay S w).h ((ay S w).z-1):=by
 rw[Bq P];refine wo _ ?_;cases e:aN (fM T (ay S w).h ((ay S w).z-1)) ⟨#[36,61]⟩
 ·rfl
 ·have i:=P.zt;have g:=P.pos;obtain⟨q,b,c,a⟩:=D0 P.le (by omega) e;have f:=(P.w q b c).1;have:=(zu f (by rw[a];decide +kernel)).1;rw[d]at this;cases this
theorem xZ(P:zJ T S w):((tS T (ay S w).h).toList == [36,61])=false/\(ay S w).h<(ay S w).z-1:=by
 have b:=(zx P).1;have f:=P.zt;have d:=P.pos;rw[sJ T _ _ P.le (by omega)]at b;have a:(ay S w).h<(ay S w).z-1:=by omega
 refine⟨?_,a⟩;cases e:((tS T (ay S w).h).toList == [36,61])
 ·rfl
 ·have c:=(P.w _ (Xy _) a).1;have:=(zu c e).2.2;rw[Ea]at this;exact absurd rfl this
theorem DC(P:zJ T S w):0<(bC T (ay S w).h).length/\(bC T (ay S w).h).getD 0 ⟨#[]⟩=tS T (ay S w).h:=by
 obtain⟨b,f⟩:=xZ P;have g:=P.zt;have a:=vT T (ay S w).h ((ay S w).z-1) 0 (by omega) (by omega);have c:=(zx P).1;rw[Bq P];rw[YM]at a;generalize fM T (ay S w).h ((ay S w).z-1)=B at *;cases B with
 | nil=>simp at c
 | cons x B =>
  have e:x=tS T (ay S w).h:=a;have d:kL x=true:=by unfold kL;rw[e,b];rfl
  rw[Zc d];exact⟨by simp,e⟩
theorem WW(p:Jl T T.length S f)(b:∀q,q<T.length->bG T S q=0)(n:Nat)(i:n<=S.length):CB T S n:=fun j g c=>by
 have a:cD (ay S j).k=false:=by
  unfold aG aK at c;simp only[Bool.or_eq_true]at c;rcases c with (h | h) | (h | h) <;> exact iq h (by decide)
 have P:=rK p b j (by omega) a;refine⟨(DC P).1,fun e=>?_⟩;have d:((ay S j).k.toList == [36,112])=false:=by rw[kj e];decide
 show 1<(bC T (ay S j).h).length;rw[yb P d];exact(zx P).2 e
theorem A8(h:nV T S i z4 w z1=0)(a:cD z4=false)(d:(z4.toList == [36,61])=false)(b:aN z1 ⟨#[36,61]⟩=false):(if((i.toList == [36,99])||(i.toList == [36,118]))=true then lJ T S z4 w (i.toList == [36,99]) z1 else kO T S i z4 w z1)=0:=by
 unfold nV at h;have c:(z4.toList == [36,46])=false:=by
  unfold cD at a;simp only[Bool.or_eq_false_iff]at a;exact a.1.1
 rw[c,d,b,Xz (by simp),Zz,Xz (by simp)]at h;split at h
 ·cases h
 ·exact h
theorem Ua(P:zJ T S w)(c:(aG (ay S w).k||aK (ay S w).k)=true):fG T S (tS T (ay S w).h) w=true:=by
 obtain⟨e,f⟩:=xZ P;obtain⟨d,i⟩:=P.w _ (Xy _) f;rw[Ea]at d;have b:=A8 d i e rfl;have a:(((ay S w).k.toList == [36,99])||((ay S w).k.toList == [36,118]))=false/\((ay S w).k.toList == [36,100])=false:=by
  unfold aG aK at c;simp only[Bool.or_eq_true]at c;rcases c with (h | h) | (h | h) <;> (rw[kj h,kj h,kj h];decide)
 rw[a.1,Xz (by simp)]at b;unfold kO at b;rw[a.2,Xz (by simp),XA (by rfl)]at b;cases g:fG T S (tS T (ay S w).h) w
 ·rw[g,XA rfl]at b;cases b
 ·rfl
theorem zbV(P:zJ T S w)(a:((ay S w).k.toList == [36,102])=true):mH T S (tS T ((ay S w).h+1)) w=true/\(bC T (ay S w).h).getD 1 ⟨#[]⟩=tS T ((ay S w).h+1):=by
 have l:=(zx P).2 a;have p:=P.zt;have o:=P.pos;rw[sJ T _ _ P.le (by omega)]at l;have b:((ay S w).k.toList == [36,112])=false:=by rw[kj a];decide
 have j:=vT T (ay S w).h ((ay S w).z-1) 1 (by omega) (by omega);refine⟨?_,by rw[yb P b];exact j⟩;obtain⟨f,i⟩:=P.w ((ay S w).h+1) (by omega) (by omega);have m:((tS T ((ay S w).h+1)).toList == [36,61])=false:=by
  cases e:((tS T ((ay S w).h+1)).toList == [36,61])
  ·rfl
  ·have:=(zu f e).1;rw[b]at this;cases this
 have d:fM T (ay S w).h ((ay S w).h+1)=[tS T (ay S w).h]:=by
  have:=FO T (ay S w).h (ay S w).h (Xy _) (by omega);rw[Ea]at this;exact this
 have g:aN (fM T (ay S w).h ((ay S w).h+1)) ⟨#[36,61]⟩=false:=by
  rw[d,vh];have e:(⟨#[36,61]⟩:Xr).toList=[36,61]:=by decide +kernel
  rw[e];exact(xZ P).1
 have c:=A8 f i m g;rw[kj a,kj a,Xz (by decide)]at c;unfold kO at c;rw[d,kj a,Xz (by decide),Xz (by simp),a,XA rfl,Xz (by simp)]at c;cases n:mH T S (tS T ((ay S w).h+1)) w
 ·rw[n,XA rfl]at c;cases c
 ·rfl
theorem G8(p:Jl T T.length S f)(n:∀q,q<T.length->bG T S q=0)(hi:w<=S.length)(hk:x<=S.length)(s:fG T S i w=true)(t:mH T S i x=true):False:=by
 unfold fG kR at s;unfold mH kR at t;obtain⟨j,u,v⟩:=Yu.1 s;obtain⟨m,I,y⟩:=Yu.1 t;have u:=XI.1 u;have I:=XI.1 I;unfold sN at v y;rw[qH.1,XU,XU]at v;rw[qH.2,XU,XU]at y;obtain⟨l,G,-⟩:=v;obtain⟨F,L,-⟩:=y;have c:∀(j:Nat),j<S.length->(((ay S j).k.toList == [36,99])=true∨((ay S j).k.toList == [36,118])=true)->aN (bC T (ay S j).h) i=true->∃B,lJ T S i j ((ay S j).k.toList == [36,99]) B=0:=fun j u a H=>by
  have d:cD (ay S j).k=false:=by rcases a with h | h <;> exact iq h (by decide)
  have P:=rK p n j u d;have o:((ay S j).k.toList == [36,112])=false:=by rcases a with h | h <;> (rw[kj h];decide)
  rw[yb P o]at H;have hz:=P.zt;have Y:=P.pos;obtain⟨q,E,K,e⟩:=D0 P.le (by omega) H;obtain⟨W,V⟩:=P.w q E K;have b:∀q,(ay S j).h<=q->q<(ay S j).z-1->((tS T q).toList == [36,61])=false:=fun q s t=>by
   cases e:((tS T q).toList == [36,61])
   ·rfl
   ·have:=(zu (P.w q s t).1 e).1;rw[o]at this;cases this
  have Q:aN (fM T (ay S j).h q) ⟨#[36,61]⟩=false:=by
   cases O:aN (fM T (ay S j).h q) ⟨#[36,61]⟩
   ·rfl
   ·obtain⟨Z,M,a2,N⟩:=D0 E (by omega) O;have:=b Z M (by omega);rw[N]at this;exact absurd this (by decide +kernel)
  have J:=A8 W V (b q E K) Q;rw[XA (by rcases a with h | h <;> rw[h] <;> simp),e]at J;exact⟨_,J⟩
 obtain⟨B1,g⟩:=c j (by omega) (XQ l) G;obtain⟨B2,k⟩:=c m (by omega) (XK F) L;have r:((ay S m).k.toList == [36,99])=false:=by rw[kj F];decide
 rw[l]at g;rw[r]at k;unfold lJ at g k;rcases Nat.lt_trichotomy j m with D | A | C
 ·have R:fG T S i m=true:=by
   unfold fG kR;exact pK j D (by unfold sN;rw[qH.1,l,G];simp)
  rw[R]at k;split at k
  ·cases k
  ·simp at k
 ·rw[A,r]at l;cases l
 ·have U:kR T S ⟨#[36,118]⟩ i j false=true:=by
   unfold kR;exact pK m C (by unfold sN;rw[qH.2,F,L];simp)
  have X:li T S i j=true:=by unfold li;rw[U];simp
  rw[X]at g;split at g
  ·cases g
  ·simp at g
theorem zcB(p:Jl T T.length S f)(a:∀q,q<T.length->bG T S q=0)(n:Nat)(A:n<=S.length):zag T S n:=fun r B g=>by
 have P:=rK p a r (by omega) (by unfold aG at g;rcases Yo _ _ ▸ g with h | h <;> exact iq h (by decide));have w:=Ua P (by rw[g];rfl);have s:(aU T S r).getD 0 ⟨#[]⟩=tS T (ay S r).h:=(DC P).2;rw[s];cases e:aN (jc T S (bW T S r) (bW T S r).length) (tS T (ay S r).h)
 ·rfl
 ·exfalso
  unfold aN at e;obtain⟨y,l,d⟩:=Yu.1 e;unfold jc at l;obtain⟨i,k,rfl⟩:=YN.1 l;unfold Cn at k;obtain⟨b,c⟩:=Yt.1 k;have b:=XI.1 b;have v:(bW T S r).getD i 0=(bW T S r)[i]:=by rw[Xw,Xv b];rfl
  unfold M1 at c;rw[v]at c d;have z:=wt T S r (bW T S r)[i] (XM b);generalize (bW T S r)[i]=j at *;have o:=rK p a j (by omega) (iq c (by decide));obtain⟨m,x⟩:=zbV o c;have t:aU T S j=bC T (ay S j).h:=rfl;rw[t,x]at d;have u:tS T ((ay S j).h+1)=tS T (ay S r).h:=by
   have:(tS T ((ay S j).h+1)).toList=(tS T (ay S r).h).toList:=(by simpa using d);apply Zbc;apply Zaw.1;rw[<-YK,<-YK,this]
  rw[u]at m;exact G8 p a (by omega) (by omega) w m
end
theorem Um(d:b.length<=10000)(a:∀q,q<b.length->bG b (aj b) q=0)(n:Nat)(g:n<=(aj b).length):pE b (aj b) n:=by
 have p:=fJ b;have k:(aj b).length<=b.length:=t8 b b.length;obtain⟨i,c⟩:=ET b (by omega) a;have h:pE b (aj b) (aj b).length:=⟨i,by omega,d,fun j e f=>um (rK p a j e f),c⟩;exact h.mono g
def LW(S:List Sm)(a r:Nat):Prop:=r<a/\(aG (ay S r).k||aK (ay S r).k)=true
structure zae(T:List Tk)(S:List Sm)(a i:Nat)(s:dV):Prop where
 nd:s.need<=10000
 Zbu:s.ref=-1∨(s.ref=-2/\s.back<i)∨∃r,LW S a r/\s.ref=(r:Nat)/\s.need=jW T S (r:Nat)
def pC(T:List Tk)(S:List Sm)(a:Nat)(P:List dV):Prop:=∀i,i<P.length->zae T S a i (cn P i)
section
variable {T:List Tk} {S:List Sm} {a:Nat}
theorem pC.snoc{P:List dV}{s:dV}(h:pC T S a P)(f:zae T S a P.length s):pC T S a (P++[s]):=fun i d=>by
 rw[XC,Ye,Yn]at d;by_cases e:i<P.length
 ·have b:cn (P++[s]) i=cn P i:=by unfold cn;rw[Xw,Xw,XP e]
  rw[b];exact h i e
 ·have c:i=P.length:=by omega
  have b:cn (P++[s]) i=s:=by unfold cn;rw[c,Xw,XO (Xy _),YA];rfl
  rw[b,c];exact f
theorem pC.nil:pC T S a []:=fun i b=>by simp at b
theorem Ha(b:a<=10000)(c:w<a):jW T S (w:Nat)<=10000:=by
 unfold jW;split
 ·omega
 ·split
  ·have:=oL T S (w:Int).toNat;rw[YO]at this ⊢;omega
  ·omega
theorem DG(h:fV T S a i=(w:Int)):LW S a w:=by
 have d:=tM T S a i;rw[h]at d;rcases d with e | ⟨q,l,e⟩
 ·omega
 ·have f:w=q:=by omega
  subst f;refine⟨l,?_⟩;unfold fV at h;split at h
  ·omega
  ·split at h
   ·unfold bU at h;cases c:(List.range a).find? (uB T S i) with
    | none=>rw[c]at h;simp at h
    | some j =>
     rw[c]at h;have g:j=w:=by have h:(j:Int)=(w:Int):=h;omega
     have b:=Zd c;rw[g]at b;unfold uB at b;rw[XU]at b;cases k:(aG (ay S w).k||aK (ay S w).k)
     ·exfalso
      have:bP T (ay S w)=⟨#[]⟩:=(by unfold bP;rw[k,Xz (by simp)]);rw[this]at b;exact absurd b.1 (by decide +kernel)
     ·rfl
   ·omega
theorem Rf(m:a<=10000)(e:Nat)(n:Nat):∀i P,pC T S a P->pC T S a (pM T S a e n i P).st/\((pM T S a e n i P).why=0->0<(pM T S a e n i P).st.length)/\(pM T S a e n i P).st.length<=P.length+n:=by
 induction n with
 | zero =>
  intro i P d;rw[pM];split
  ·exact⟨pC.nil,fun h=>(by cases h),XX _⟩
  ·exact⟨d,fun _=>(by simp only;omega),(by simp)⟩
 | succ n l =>
  intro i P d;rw[pM];split
  ·obtain⟨b,c,f⟩:=l (i+1) _ (d.snoc (s:=⟨-1,0,0,(T.getD i kg).ZbD,(T.getD i kg).ZbE,(T.getD i kg).ZbF⟩) ⟨by show 0<=10000;omega,XQ rfl⟩);exact⟨b,c,by simp at f ⊢;omega⟩
  ·split
   ·exact⟨pC.nil,fun h=>(by cases h),XX _⟩
   ·next b c =>
    obtain⟨k,g⟩:∃k:Nat,fV T S a (tS T i)=k:=⟨(fV T S a (tS T i)).toNat,by omega⟩
    have j:=DG g;rw[g];obtain⟨b,c,f⟩:=l (i+1) _ (d.snoc (s:=⟨(k:Int),0,jW T S (k:Int),(T.getD i kg).ZbD,(T.getD i kg).ZbE,(T.getD i kg).ZbF⟩) ⟨Ha m j.1,XK (XK ⟨k,j,rfl,rfl⟩)⟩);exact⟨b,c,by simp at f ⊢;omega⟩
theorem TJ(A:a<=10000)(d:Xu)(n:∀r∈d,LW S a r)(v:Lt)(L:List Lt):∀P b f g,pC T S a P->(∀t∈b,t<P.length)->(g=true->0<P.length) ->
  pC T S a (pU T S d v L P b f g).st/\((pU T S d v L P b f g).why=0->0<(pU T S d v L P b f g).st.length)/\(pU T S d v L P b f g).st.length<=P.length+L.length:=by
 induction L with
 | nil =>
  intro P b f g o _ _;rw[pU];split
  ·exact⟨pC.nil,fun h=>(by cases h),XX _⟩
  ·split
   ·exact⟨pC.nil,fun h=>(by cases h),XX _⟩
   ·exact⟨o,fun _=>(by simp only;omega),(by simp)⟩
 | cons l L w =>
  intro P b f g o p z;rw[pU];split
  ·obtain⟨i,j,k⟩:=w P b (f++Jn l.c) false o p (fun h=>by cases h);exact⟨i,j,by simp at k ⊢;omega⟩
  ·split
   ·split
    ·exact⟨pC.nil,fun h=>(by cases h),XX _⟩
    ·next y =>
     have B:=De (f++Jn l.c) (d.length+b.length);generalize j9 (f++Jn l.c) (d.length+b.length)=m at *;have D:zae T S a P.length (vG T S d b m l):=by
      unfold vG;split
      ·next C =>
       have q:m-1<d.length:=(by omega);have e:d.getD (m-1) 0=d[m-1]:=(by rw[Xw,Xv q];rfl);have x:=n d[m-1] (XM q);rw[e];exact⟨Ha A x.1,XK (XK ⟨_,x,rfl,rfl⟩)⟩
      ·next C =>
       have q:m-d.length-1<b.length:=(by omega);have e:b.getD (m-d.length-1) 0=b[m-d.length-1]:=(by rw[Xw,Xv q];rfl);rw[e];exact⟨by show 0<=10000;omega,XK (XQ ⟨rfl,p _ (XM q)⟩)⟩
     obtain⟨i,j,k⟩:=w _ b ⟨#[]⟩ true (o.snoc D) (fun t u=>by rw[XC];have:=p t u;omega) (fun _=>by simp);exact⟨i,j,by simp at k ⊢;omega⟩
   ·split
    ·next y =>
     have E:=z y.2
     obtain⟨i,j,k⟩:=w P (b++[P.length-1]) f false o (fun t u=>by
      rcases X9.1 u with h | h
      ·exact p t h
      ·rw[XH.1 h];omega) (fun h=>by cases h)
     exact⟨i,j,by simp at k ⊢;omega⟩
    ·split
     ·obtain⟨i,j,k⟩:=w _ b f false (o.snoc (s:=⟨-1,0,0,l.ZbD,l.ZbE,l.ZbF⟩) ⟨by show 0<=10000;omega,XQ rfl⟩) (fun t u=>by rw[XC];have:=p t u;omega) (fun h=>by cases h);exact⟨i,j,by simp at k ⊢;omega⟩
     ·exact⟨pC.nil,fun h=>(by cases h),XX _⟩
theorem V4(o:a<=10000)(m:fN T)(c:Nat)(n:Nat):∀i b,(∀r∈b,LW S a r)->pC T S a (zc T S a c n i b).st/\((zc T S a c n i b).why=0->0<(zc T S a c n i b).st.length)/\(zc T S a c n i b).st.length<=1024*T.length:=by
 induction n with
 | zero=>intro i b _;rw[zc];exact⟨pC.nil,fun h=>(by cases h),XX _⟩
 | succ n q =>
  intro i b l;rw[zc];split
  ·obtain⟨e,f,g⟩:=TJ (T:=T) o b l (Kj (T.getD c kg)) (fU T (i+1) c) [] [] ⟨#[]⟩ false pC.nil (fun t p=>by cases p) (fun h=>by cases h);have:=Bn T m (i+1) c;rw[Yn,Zf]at g;exact⟨e,f,by unfold lK;omega⟩
  ·split
   ·exact⟨pC.nil,fun h=>(by cases h),XX _⟩
   ·split
    ·exact⟨pC.nil,fun h=>(by cases h),XX _⟩
    ·next e f g =>
     obtain⟨k,j⟩:∃k:Nat,fV T S a (tS T i)=k:=⟨(fV T S a (tS T i)).toNat,by omega⟩
     refine q (i+1) _ (fun r d=>?_);rcases X9.1 d with h | h
     ·exact l r h
     ·rw[XH.1 h,j,YO];exact DG j
theorem z9(g:a<=10000)(i:fN T)(m:T.length<=10000)(e b:Nat)(n:b<=T.length):pC T S a (io T S a e b).st/\((io T S a e b).why=0->0<(io T S a e b).st.length)/\(io T S a e b).st.length<=100000000:=by
 unfold io;split
 ·unfold lC
  obtain⟨c,d,f⟩:=V4 (T:=T) (S:=S) g i b (b-(e+2)) (e+2) (bW T S a) (fun r j=>by
   obtain⟨k,-,l⟩:=tY T S a r j;exact⟨k,by rw[l];simp⟩)
  exact⟨c,d,by omega⟩
 ·obtain⟨c,d,f⟩:=Rf (T:=T) (S:=S) g b (b-(e+1)) (e+1) [] pC.nil;exact⟨c,d,by simp at f;omega⟩
theorem NT(n:a<=10000)(l:fN T)(m:T.length<=10000)(e b:Nat)(q:b<=T.length):Qz T S a (io T S a e b):=by
 obtain⟨g,s,t⟩:=z9 (T:=T) (S:=S) n l m e b q;refine⟨t,fun i=>?_,fun h=>⟨s h,fun i c d=>⟨?_⟩⟩⟩
 ·by_cases c:i<(io T S a e b).st.length
  ·have:=(g i c).nd;omega
  ·have:cn (io T S a e b).st i=zce:=(by unfold cn;rw[Xw,Yb (by omega)];rfl);rw[this];show 0<=100000;omega
 ·rcases(g i c).Zbu with h | ⟨h,o⟩ | ⟨r,f,j,k⟩
  ·exact absurd h d
  ·exact XQ ⟨h,o⟩
  ·refine XK ⟨r,f.1,j,f.2,fun p=>?_⟩;rw[k];unfold jW;rw[Xz (by omega),YO,XA p]
end
def Ca(t:Tk):Prop:=t.s.size<=1024/\0<=t.ZbF/\t.ZbF<=10000
theorem Eo:fN []:=fun t a=>by cases a
theorem oC{M:List Tk}(h:fN y)(k:fN M):fN (y++M):=fun t a=>by
 rcases X9.1 a with e | e
 ·exact h t e
 ·exact k t e
theorem nF(h:Ca z6):fN [z6]:=fun u a=>by rw[XH.1 a];exact h
theorem wm(r:Int)(h:Ca z6):Ca (uG z6 r):=⟨by show(0:Nat)<=1024;omega,h.2⟩
theorem Fi(s:Xr)(r:Int)(k:Nat)(a:s.size<=1024)(b:k<=1024):Ca (ou g L s r k):=by
 have:=Ef L k;exact⟨a,by show 0<=bN L k;omega,by show bN L k<=10000;omega⟩
theorem Ji(a:fN b)(c:v<=l)(d:l<=1024):fN (kG g L v l b):=by
 unfold kG;split
 ·exact a
 ·exact oC a (nF (Fi g L _ 0 v (by rw[ZW];omega) (by omega)))
theorem Jf(i:Nat)(b:i<=1024):fN (kF g L i):=by
 induction i with
 | zero=>exact Eo
 | succ i a =>
  rw[kF];split
  ·exact Ji g L _ i _ (a (by omega)) (qV L i) (by omega)
  ·exact a (by omega)
theorem Ql(a:L.size<=1024):fN (jE g L):=by
 unfold jE;split
 ·next i h =>
  have b:i<L.size:=XI.1 (XS h);exact oC (Jf g L i (by omega)) (nF (Fi g L _ 1 i (by show(0:Nat)<=1024;omega) (by omega)))
 ·exact oC (Ji g L _ _ _ (Jf g L _ a) (qV L _) a) (nF (Fi g L _ 0 _ (by show(0:Nat)<=1024;omega) a))
theorem Al(h:Ca z6)(k:fN y):fN (z6 :: y):=fun u a=>by
 rcases Yd.1 a with e | e
 ·rw[e];exact h
 ·exact k u e
theorem QQ(b:Bool)(L:List Tk)(h:fN L):fN (cC b L):=by
 induction L generalizing b with
 | nil=>cases b <;> exact Eo
 | cons t L c =>
  have d:Ca t:=h t (Yg ..);have a:fN L:=fun u f=>h u (Yf _ f);have e:∀r,Ca ⟨⟨#[]⟩,r,t.ZbD,t.ZbE,t.ZbF⟩:=fun r=>⟨by show(0:Nat)<=1024;omega,d.2⟩
  cases b
  ·rw[cC];split
   ·exact c true a
   ·exact Al d (c false a)
  ·rw[cC];split
   ·exact Al d (c true a)
   ·split
    ·exact c false a
    ·split
     ·exact Al (e 3) (c true a)
     ·split
      ·exact nF (e 2)
      ·exact c true a
theorem O3(f:∀k e c,fN c->fN (z3 k e c).1)(w:Fs)(n:Nat):∀L,L.length<=n->fN L->∀e c,fN c->fN (dr z3 w L e c).1:=by
 induction n with
 | zero =>
  intro L m _ e c d;cases L with
  | nil=>rw[dr];exact d
  | cons _ _=>simp at m
 | succ n q =>
  intro L m s e c d;cases L with
  | nil=>rw[dr];exact d
  | cons t r =>
   have o:Ca t:=s t (Yg ..);have l:fN r:=fun u p=>s u (Yf _ p);have g:r.length<=n:=(by simpa using m);rw[dr.eq_def];simp only;split
   ·split
    ·exact d
    ·exact oC d (nF (wm 7 o))
   ·split
    ·exact q r g l e _ (oC d (nF o))
    ·split
     ·exact oC d (nF (wm 4 o))
     ·cases r with
      | nil=>exact d
      | cons a r =>
       have v:Ca a:=l a (Yg ..);cases r with
       | nil=>exact oC d (nF (wm _ v))
       | cons b r =>
        have x:Ca b:=l b (Yf _ (Yg ..));have j:fN r:=fun u p=>l u (Yf _ (Yf _ p));have i:r.length<=n:=(by simp at g;omega);simp only;split
        ·exact oC d (nF (wm _ v))
        ·split
         ·exact oC d (nF (wm _ x))
         ·split
          ·exact q r i j e c d
          ·split
           ·exact f _ e c d
           ·exact q r i j _ _ (f _ e c d)
theorem O9(b:∀k,(ak H k).size<=1024)(n:Nat):∀k d a,fN a->fN (fh H n k d a).1:=by
 induction n with
 | zero=>intro k d a c;exact c
 | succ n e =>
  intro k d a c;rw[fh];exact O3 _ e H _ _ (Xy _) (QQ _ _ (Ql _ _ (b k))) _ _ c
theorem Gy(a:∀l,(ak H l).size<=1024):fN (dd H l).1:=by
 have h:fN (sw H l):=O9 H a _ _ _ _ Eo;unfold dd;split
 ·exact fun t b=>h t (Zae _ b)
 ·exact h
def El(T:List Tk)(S:List Sm)(j:Nat):Nat:=(ay S j).h+(bC T (ay S j).h).length
theorem zcf(p:Xr->Bool)(L:Xs)(h:∃x∈L,p x=false):(L.takeWhile p).length<L.length/\p (L.getD (L.takeWhile p).length ⟨#[]⟩)=false/\∀q,q<(L.takeWhile p).length->p (L.getD q ⟨#[]⟩)=true:=by
 induction L with
 | nil=>obtain⟨x,f,-⟩:=h;cases f
 | cons a L j =>
  cases b:p a
  ·rw[List.takeWhile_cons,Xz (by rw[b];simp)];exact⟨by simp,b,fun q d=>by simp at d⟩
  ·rw[List.takeWhile_cons,XA b]
   obtain⟨k,g,i⟩:=j (by
    obtain⟨x,f,c⟩:=h;rcases Yd.1 f with e | e
    ·rw[e,b]at c;cases c
    ·exact⟨x,e,c⟩)
   refine⟨by simp;omega,g,fun q d=>?_⟩;cases q with
   | zero=>exact b
   | succ q=>exact i q (by simpa using d)
theorem zbj(P:zJ y o w)(m:((ay o w).k.toList == [36,112])=true) :
  (ay o w).h<=El y o w/\((tS y (El y o w)).toList == [36,61])=true/\(∀q,(ay o w).h<=q->q<El y o w->((tS y q).toList == [36,61])=false)/\El y o w<(ay o w).z-1:=by
 have s:=P.zt;have r:=P.pos;have d:=P.le;have a:=P.cl;have n:=sJ y (ay o w).h ((ay o w).z-1) d (by omega);have l:aN (fM y (ay o w).h ((ay o w).z-1)) ⟨#[36,61]⟩=true:=by
  unfold jJ at a;split at a
  ·cases a
  ·split at a
   ·cases a
   ·cases e:aN (fM y (ay o w).h ((ay o w).z-1)) ⟨#[36,61]⟩
    ·rw[m,e,XA (by decide)]at a;cases a
    ·rfl
 obtain⟨i,p,j⟩:=Yu.1 l;have c:∃x∈fM y (ay o w).h ((ay o w).z-1),kL x=false:=by
  refine⟨i,p,?_⟩;unfold kL;have e:i.toList=(⟨#[36,61]⟩:Xr).toList:=by simpa using j
  rw[e];decide +kernel
 obtain⟨f,b,g⟩:=zcf kL _ c;rw[<-Bq P]at f b g;rw[n]at f;unfold El;refine⟨by omega,?_,fun q t u=>?_,by omega⟩
 ·rw[vT y _ _ _ (by omega) (by omega)]at b;unfold kL at b;simpa using b
 ·have:=g (q-(ay o w).h) (by omega);rw[vT y _ _ _ (by omega) (by omega),show(ay o w).h+(q-(ay o w).h)=q by omega]at this;unfold kL at this;simpa using this
def pfR(T:List Tk)(S:List Sm)(a:Nat):lF:=io T S a (El T S a) ((ay S a).z-1)
def Pv(T:List Tk)(S:List Sm)(a:Nat):j4:=px T S a (pfR T S a) (T.getD ((ay S a).z-1) kg)
theorem FH.keptS(h:FH n p w o)(c:aa z7 n k)(m:∀g,p=some ⟨g,0,none⟩->g∉z7):FH k p w o:=by
 refine⟨h.1,fun j t r=>?_⟩;obtain⟨g,e,b,d,f,i,l⟩:=h.2 j t r;have q:∀a,k.cell? ⟨g,a,none⟩=n.cell? ⟨g,a,none⟩:=fun a=>XJ (c.block g b (m g e));exact⟨g,e,XB b c.size,by rw[q];exact d,by rw[q];exact f,by rw[q];exact i,by rw[q];exact l⟩
theorem gM.off{A:Xt}(h:gM n w y p u o z8 t)(v:n.heap[x]?=some (.cells #[slice A zf y0,I,M,N,z5] 85))(l:aa [x] n k):gM k w y p u o z8 t:=by
 obtain⟨z,-⟩:=nJ v;refine⟨l.get h.d (fun r=>?_),?_,?_⟩
 ·simp at r;subst r;have:=h.d.symm.trans v;simp at this
 ·cases q:y with
  | nil=>rw[q]at h;exact⟨h.t.1,fun j c i=>by simp at i⟩
  | cons c L =>
   rw[q]at h;refine h.t.keptS l (fun g e b=>?_);simp at b;subst b;obtain⟨g,f,-,a,-⟩:=h.t.2 0 c rfl;rw[f]at e;cases e;rw[Zn]at a;rw[z]at a;cases a
 ·cases m:o with
  | nil=>rw[m]at h;exact⟨h.s.1,fun j c i=>by simp at i⟩
  | cons c L =>
   rw[m]at h;refine h.s.keptS l (fun g e b=>?_);simp at b;subst b;obtain⟨g,f,-,a,-⟩:=h.s.2 0 c rfl;rw[f]at e;cases e;rw[Zn]at a;rw[z]at a;cases a
theorem Kc(g:Xt)(y:Nat)(f:Xt)(x:Nat)(E:Xt)(n c:Nat)(D G H:Value)(w:World)(F:w.heap[v]?=some (.cells #[slice E n c,D,pointer (some ⟨l,0,none⟩),G,H] 85))(N:gM w l b g y (aj b) f x)(t:b.length<=10000)(A:fN b)(d:∀q,q<b.length->bG b (aj b) q=0) :
  Calls prog 56 #[pointer (some ⟨v,0,none⟩)] w fun e V=>Qv b (aj b) v l (slice E n c) D (pfR b (aj b)) (Pv b (aj b)) w e V:=by
 have p:=fJ b;have W:(aj b).length<=b.length:=t8 b b.length;have s:∀m,aa [v] w m->gM m l b g y (aj b) f x:=fun m k=>N.off F k;have j:∀a,xF (aj b) a=true->cD (ay (aj b) a).k=false:=fun a h=>iq h (by decide);refine Kb v l b g y (aj b) f x _ D G H _ _ w F s (by omega) (Um b t d _ (Xy _)).ok.a ?_ ?_ ?_
 ·intro a o u m C;have P:=rK p d a o (j a u);obtain⟨I,J,K,L⟩:=zbj P u;have:=P.pos;have:=P.zt;exact JP l a (El b (aj b) a) ((ay (aj b) a).z-1) b g y _ f x m (s m C) (Um b t d a (by omega)) o (um P) A I J K (by omega) L (by omega) P.dot
 ·intro a o u B m C R;have P:=rK p d a o (j a u);have:=P.pos;have:=P.zt;exact Fk l a ((ay (aj b) a).z-1) b g y _ f x (pfR b (aj b) a) B m (s m C) (Um b t d a (by omega)) (WW p d a (by omega)) (zcB p d a (by omega)) o (um P) ((Um b t d _ (Xy _)).ok.a a o) (by omega) (by omega) R (NT (by omega) A t _ _ (by omega))
 ·intro a o u;have P:=rK p d a o (j a u);have:=P.zt;obtain⟨T,-,U⟩:=z9 (T:=b) (S:=aj b) (a:=a) (by omega) A t (El b (aj b) a) ((ay (aj b) a).z-1) (by omega);refine⟨U,fun i O=>?_⟩
  show(cn (io b (aj b) a (El b (aj b) a) ((ay (aj b) a).z-1)).st i).ref<=(a:Int)
  rcases(T i O).Zbu with h | ⟨h,-⟩ | ⟨r,Q,M,-⟩
  ·rw[h];omega
  ·rw[h];omega
  ·rw[M];have:=Q.1;omega
theorem KI(j:∀k d c,d[k]?=some false->(z3 k d c).1.length+2000*a8 (z3 k d c).2<=c.length+2000*a8 d)(f:Fs)(n:Nat):∀L,L.length<=n->∀d c,(dr z3 f L d c).1.length+2000*a8 (dr z3 f L d c).2<=c.length+L.length+2000*a8 d:=by
 induction n with
 | zero =>
  intro L m d c;cases L with
  | nil=>rw[dr];simp
  | cons _ _=>simp at m
 | succ n p =>
  intro L m d c;cases L with
  | nil=>rw[dr];simp
  | cons t r =>
   have g:r.length<=n:=(by simpa using m);rw[dr.eq_def];simp only[List.length_cons];split
   ·split
    ·simp only;omega
    ·simp only[List.length_append,List.length_cons,List.length_nil];omega
   ·split
    ·have:=p r g d (c++[t]);rw[XC,Ye,Yn]at this;omega
    ·split
     ·simp only[List.length_append,List.length_cons,List.length_nil];omega
     ·cases r with
      | nil=>simp only;omega
      | cons a r =>
       cases r with
       | nil=>simp only[List.length_append,List.length_cons,List.length_nil];omega
       | cons b r =>
        have i:r.length<=n:=(by simp at g;omega);simp only[List.length_cons];split
        ·simp only[List.length_append,List.length_cons,List.length_nil];omega
        ·split
         ·simp only[List.length_append,List.length_cons,List.length_nil];omega
         ·split
          ·have:=p r i d c;omega
          ·next l =>
           have o:d[(bV f a.s).toNat]?=some false:=by
            rw[Xw]at l;cases e:d[(bV f a.s).toNat]? with
            | none=>rw[e]at l;exact absurd rfl l
            | some x=>rw[e]at l;cases x;rfl;exact absurd rfl l
           have q:=j (bV f a.s).toNat d c o;split
           ·omega
           ·have:=p r i (z3 (bV f a.s).toNat d c).2 (z3 (bV f a.s).toNat d c).1;omega
theorem KL(c:∀k,(ak H k).size<=1024)(n:Nat):∀k b a,b[k]?=some false->(fh H n k b a).1.length+2000*a8 (fh H n k b a).2<=a.length+2000*a8 b:=by
 induction n with
 | zero=>intro k b a _;rw[fh];simp
 | succ n e =>
  intro k b a d;rw[fh];have f:=KI (fh H n) e H _ (uN H k) (Xy _) (b.set k true) a;have g:=IZ H k;have i:=nu b k d;have j:=c k;omega
theorem NZ(c:H.length<=4)(a:∀l,(ak H l).size<=1024)(d:l<H.length):(dd H l).1.length<=10000:=by
 have h:=KL H a H.length l (List.replicate H.length false) [] (by rw[Y4,XA d]);rw[pt]at h;have b:(sw H l).length<=10000:=by unfold sw;simp at h;omega
 unfold dd;split
 ·rw[Zk];omega
 ·exact b
structure zab(w:World)(v:Nat)(fs:Fs)(h:Hd)(T:List Tk)(lo hi b:Nat)(aT:Xt)(cT:Nat)(aS:Xt)(cS:Nat)(PS:List (lF×Hd))(h1:Hd)(RS:List j4)(h2:Hd):Prop where
 rv:gZ w v fs h true (pointer (some ⟨b,0,none⟩)) (slice h1.ao PS.length h1.cap) (slice h2.ao RS.length h2.cap)
 db:gM w b T aT cT (aj T) aS cS
 ps:PS.map (·.1)=(List.range (aj T).length).map (Cl (aj T) (pfR T (aj T)))
 ZbC:sD (aj T) PS ((List.range (aj T).length).map (rJ T (aj T) (Pv T (aj T)))) RS (aj T).length
 s1:aD w h1 (ij PS)
 s2:aD w h2 (ie RS)
 sq:∀x∈PS,cW w x.2.ao 6 mG x.1.st
 nb:lo<=b/\b<hi
 nT:∀g,aT=some ⟨g,0,none⟩->lo<=g/\g<hi
 nS:∀g,aS=some ⟨g,0,none⟩->lo<=g/\g<hi
 n1:∀g,h1.Zbx=some g->lo<=g/\g<hi
 n2:∀g,h2.Zbx=some g->lo<=g/\g<hi
 nq:∀x∈PS,∀g,x.2.ao=some ⟨g,0,none⟩->lo<=g/\g<hi
def Ce(w:World)(v:Nat)(fs:Fs)(h:Hd)(T:List Tk)(lo hi:Nat):Prop:=∃b aT cT aS cS PS h1 RS h2,zab w v fs h T lo hi b aT cT aS cS PS h1 RS h2
theorem Ce.Zbw(a:Ce n w d D y x u)(c:aa z7 n k)(C:w∉z7)(A:∀q,D.Zbx=some q->q∉z7)(B:∀q,x<=q->q<u->q∉z7):Ce k w d D y x u:=by
 obtain⟨b,o,r,m,p,j,v,l,z,a⟩:=a;have q:∀g,x<=g/\g<u->g∉z7:=fun g f=>B g f.1 f.2
 exact⟨b,o,r,m,p,j,v,l,z,{ a with
  rv:=a.rv.keptS c C A
  db:=⟨c.get a.db.d (q b a.nb),a.db.t.keptS c (fun g e=>q g (a.nT g e)),a.db.s.keptS c (fun g e=>q g (a.nS g e))⟩
  s1:=a.s1.Zbo (fun g e=>c.block g (a.s1.lt e) (q g (a.n1 g e)))
  s2:=a.s2.Zbo (fun g e=>c.block g (a.s2.lt e) (q g (a.n2 g e)))
  sq:=fun f i=>(a.sq f i).keptS c (fun g e=>q g (a.nq f i g e)) }⟩
theorem Ce.rvAt(a:Ce n w d D y x u):∃c e f,gZ n w d D true c e f:=by
 obtain⟨b,k,m,j,l,g,o,i,p,a⟩:=a;exact⟨_,_,_,a.rv⟩
theorem Td{X:World}{f:List (lF×Hd)}{o:List j4}{l:Hd}(a:zF n k w x I M f c o l)(j:gM k x y p zf (aj y) z8 y0)(G:gZ X w d D true (pointer (some ⟨x,0,none⟩)) (slice c.ao f.length c.cap) (slice l.ao o.length l.cap))(K:aa [w,u] k X)(N:w<t)(J:u<t)(v:t<=n.heap.size)(A:t<=x)(r:∀g,p=some ⟨g,0,none⟩->t<=g/\g<k.heap.size)(nS:∀g,z8=some ⟨g,0,none⟩->t<=g/\g<k.heap.size)(F:f.map (·.1)=(List.range (aj y).length).map (Cl (aj y) (pfR y (aj y))))(i:sD (aj y) f ((List.range (aj y).length).map (rJ y (aj y) (Pv y (aj y)))) o (aj y).length):Ce X w d D y t X.heap.size:=by
 have z:=K.size;have q:∀g,t<=g->g∉[w,u]:=fun g L H=>by simp at H;omega
 have B:∀g,c.Zbx=some g->t<=g/\g<X.heap.size:=fun g e=>⟨XF v (a.f1 g e),XB (a.o1.lt e) z⟩
 have C:∀g,l.Zbx=some g->t<=g/\g<X.heap.size:=fun g e=>⟨XF v (a.f2 g e),XB (a.o2.lt e) z⟩
 have E:∀b∈f,∀g,b.2.ao=some ⟨g,0,none⟩->t<=g/\g<X.heap.size:=fun b m g e=>⟨XF v ((a.q b m).2 g e).1,XB (a.ql b m g e) z⟩
 exact⟨x,p,zf,z8,y0,f,c,o,l,{
  rv:=G
  db:=⟨K.get j.d (q x A),j.t.keptS K (fun g e=>q g (r g e).1),j.s.keptS K (fun g e=>q g (nS g e).1)⟩
  ps:=F
  ZbC:=i
  s1:=a.o1.Zbo (fun g e=>K.block g (a.o1.lt e) (q g (B g e).1))
  s2:=a.o2.Zbo (fun g e=>K.block g (a.o2.lt e) (q g (C g e).1))
  sq:=fun b m=>(a.q b m).1.keptS K (fun g e=>q g (E b m g e).1)
  nb:=⟨A,XB (ah j.d) z⟩
  nT:=fun g e=>⟨(r g e).1,XB (r g e).2 z⟩
  nS:=fun g e=>⟨(nS g e).1,XB (nS g e).2 z⟩
  n1:=B
  n2:=C
  nq:=E }⟩
def VfR(fs:Fs)(k v:Nat)(h:Hd)(f:sB)(c:Int)(w:World)(e:Ending)(w':World):Prop :=
 e=returned (tuple #[jh f,int i64 c])/\((c=0->∃lo,w.heap.size<=lo/\Ce w' v fs h (dd fs k).1 lo w'.heap.size)/\(c≠0->∃p2 p3 p4,gZ w' v fs h false p2 p3 p4))/\aa [v] w w'
theorem gZ.keptV{on':Bool}(a:gZ n w d D z2 I M N)(f:aa [w] n k)(c:k.heap[w]?=some (.cells #[slice D.ao d.length D.cap,bool on',z5,y5,y6] 85)):gZ k w d D on' z5 y5 y6 :=
 ⟨c,a.ZbH.Zbo (fun q b=>f.block q (a.ZbH.lt b) (by simp;intro e;rw[e]at b;exact a.far b)),a.far,a.le⟩
theorem wk(h:∀j,j<d.length->(ak d j).size<=1024)(k:Nat):(ak d k).size<=1024:=by
 by_cases a:k<d.length
 ·exact h k a
 ·unfold ak;rw[Xw,Yb (by omega)];show(0:Nat)<=1024;omega
theorem gZ.Zbs(a:gZ n w d D z2 I M N)(c:w≠x)(b:∀q,D.Zbx=some q->q≠x)(i:Nat)(u:Value):gZ (n.setCell ⟨x,i,none⟩ u) w d D z2 I M N :=
 ⟨((aa.refl [x] n).sl1 _).get a.d (by simp;exact c),a.ZbH.Zbs b i u,a.far,a.le⟩
theorem zr{c u0 u1 u2 u3:Value}(e:k.heap[w]?=some (.cells #[z5,y5,y6,c] 87))(g:gZ k x d D z2 I M N)(l:x<w)(i:∀q,D.Zbx=some q->q<w)(f:aa [x] n k)(b:n.heap.size<=w) :
  ((((k.setCell ⟨w,0,none⟩ u0).setCell ⟨w,1,none⟩ u1).setCell ⟨w,2,none⟩ u2).setCell ⟨w,3,none⟩ u3).heap[w]?=some (.cells #[u0,u1,u2,u3] 87)/\gZ ((((k.setCell ⟨w,0,none⟩ u0).setCell ⟨w,1,none⟩ u1).setCell ⟨w,2,none⟩ u2).setCell ⟨w,3,none⟩ u3) x d D z2 I M N/\aa [x] n ((((k.setCell ⟨w,0,none⟩ u0).setCell ⟨w,1,none⟩ u1).setCell ⟨w,2,none⟩ u2).setCell ⟨w,3,none⟩ u3):=by
 refine⟨ae (ae (ae (ae e 0 u0) 1 u1) 2 u2) 3 u3,?_,(((f.setCell (XK b) _).setCell (XK b) _).setCell (XK b) _).setCell (XK b) _⟩;have a:∀q,D.Zbx=some q->q≠w:=fun q j=>by have:=i q j;omega
 exact(((g.Zbs (by omega) a _ _).Zbs (by omega) a _ _).Zbs (by omega) a _ _).Zbs (by omega) a _ _
theorem oZ(h:n.heap[w]?=some (.cells #[I,M,N,z5] 87)) :
  (n.cell? ⟨w,0,none⟩=some I/\n.cell? ⟨w,1,none⟩=some M/\n.cell? ⟨w,2,none⟩=some N/\n.cell? ⟨w,3,none⟩=some z5)/\(n.frozen? ⟨w,0,none⟩=false/\n.frozen? ⟨w,1,none⟩=false/\n.frozen? ⟨w,2,none⟩=false/\n.frozen? ⟨w,3,none⟩=false)/\w<n.heap.size:=by
 refine⟨⟨?_,?_,?_,?_⟩,⟨zcW h 0,zcW h 1,zcW h 2,zcW h 3⟩,ah h⟩
 all_goals (rw[ab h];rfl)
theorem Ag(c:H.length<=4)(d:∀j,j<H.length->(ak H j).size<=1024)(m:l<H.length)(f:((CQ (dd H l).1 (aj (dd H l).1)).ZbG==0)=true)(b:((dd H l).2.ZbG==0)=true):gO H l=dJ/\∀q,q<(dd H l).1.length->bG (dd H l).1 (aj (dd H l).1) q=0:=by
 obtain⟨e,g⟩:=Af H l c d m;have n:(gO H l).1=0:=by
  unfold gO;rw[Xz (by rw[f];simp)];exact ZR b
 refine⟨?_,(g (by rw[e,n];rfl)).1.u⟩;have k:(dd H l).2=kg:=by
  unfold dd at b ⊢;split
  ·next a =>
   rw[XA a]at b;unfold fD at a;cases i:(sw H l).getLast? with
   | none=>rw[i]at a;cases a
   | some t =>
    rw[i]at a b;simp only[Option.getD_some]at b;simp only at a;rw[b]at a;cases a
  ·rfl
 unfold gO;rw[Xz (by rw[f];simp),k];rfl
set_option maxRecDepth 100000
theorem CA(h:Hd)(u:Bool)(v x y:Value)(n:Xr)(w:World)(f:gZ w z0 H h u v x y)(J:bV H n<0) :
  Calls prog 36 #[pointer (some ⟨z0,0,none⟩),string n] w fun e z=>e=returned (tuple #[jh dJ,int i64 5])/\aa [] w z:=by
 obtain⟨W,j⟩:=aP (w.alloc (.cells #[int i64 0,string ⟨#[]⟩,int i64 0,int i64 0] 87));have a:Xq _:=dx j.o;have k:Xq _:=dC j.o;have b:Xq _:=f.Zbj a.o;have i:Xq _:=(oJ H h.ao h.cap n W (by have:=f.le;omega) b.o.ZbH.srcFi);have K:W.cell? ⟨z0,0,none⟩=some (slice h.ao H.length h.cap):=by rw[ab b.o.d];rfl
 obtain⟨⟨E,F,G,I⟩,⟨A,B,C,D⟩,M⟩:=oZ k.o;have c:Xq (z0<w.heap.size/\∀q,h.Zbx=some q->q<w.heap.size):=⟨ah f.d,fun q t=>f.ZbH.lt t⟩;clear f;go_enter func36,ntmps36;go_upto_region 1 with fail
 rw[j.o];go_wp2_with (go_at_call 34;refine Xx i.o ?_;rintro e L ⟨rfl,g⟩;rw[g];clear g);obtain⟨l,-,-⟩:=zr (u0:=int i64 0) (u1:=string ⟨#[]⟩) (u2:=int i64 0) (u3:=int i64 0) k.o b.o c.o.1 c.o.2 (rx a.o) (Xy _);obtain⟨⟨m,p,r,s⟩,-,-⟩:=oZ l;exact XG (v:=tuple #[agg #[int i64 0,string ⟨#[]⟩,int i64 0,int i64 0],int i64 5]) (by simp[results,results36,go_sem,m,p,r,s]) rfl ⟨rfl,(((a.o.sr1 (Xy _) _).sr1 (Xy _) _).sr1 (Xy _) _).sr1 (Xy _) _⟩
theorem Fn(a:Fs)(h:Hd)(on:Bool)(p2 p3 p4:Value)(n:Xr)(w:World)(hR:gZ w v a h on p2 p3 p4)(hf:bV a n=(l:Int))(hk:l<a.length)(Z:∀j,j<a.length->(ak a j).size<=1024) :
  Calls prog 36 #[pointer (some ⟨v,0,none⟩),string n] w fun e w'=>VfR a l v h (gO a l) (if((gO a l).1==0)=true then 0 else 6) w e w':=by
 unfold VfR;have ar:=hR.le;obtain⟨b4,k⟩:=h;obtain⟨gf,aq,b5,-⟩:=hR.ZbH.srcFi.2 l hk;replace aq:b4=some ⟨gf,0,none⟩:=aq;subst aq;obtain⟨W,HW⟩:=aP (w.alloc (.cells #[int i64 0,string ⟨#[]⟩,int i64 0,int i64 0] 87));have a6:Xq _:=dx HW.o;have BF:Xq _:=dC HW.o;have C:Xq _:=hR.Zbj a6.o;have a4:Xq _:=(oJ a (some ⟨gf,0,none⟩) k n W (by omega) C.o.ZbH.srcFi);rw[hf]at a4;have v0:W.cell? ⟨v,0,none⟩=some (slice (some ⟨gf,0,none⟩) a.length k):=by rw[ab C.o.d];rfl
 have v1:W.cell? ⟨v,1,none⟩=some (bool on):=by rw[ab C.o.d];rfl
 have e1:=zcW C.o.d 1;have c:Xq (v<w.heap.size/\∀q,(⟨some ⟨gf,0,none⟩,k⟩:Hd).Zbx=some q->q<w.heap.size):=⟨ah hR.d,fun q hq=>hR.ZbH.lt hq⟩;obtain⟨L,Q⟩:=aP (W.setCell ⟨v,1,none⟩ (bool false));have O:Xq (gZ L v a ⟨some ⟨gf,0,none⟩,k⟩ false p2 p3 p4):=by show gZ _ _ _ _ _ _ _ _;rw[<-Q.o];exact C.o.off
 have am:Xq (aa [v] w L):=by show aa _ _ _;rw[<-Q.o];exact(rx a6.o).sl1 _
 have av:Xq (L.heap[w.heap.size]?=some (.cells #[int i64 0,string ⟨#[]⟩,int i64 0,int i64 0] 87)):=by
  show _=_;rw[<-Q.o];exact((aa.refl [v] _).sl1 _).get BF.o (by have:=c.o.1;simp;omega)
 have N:Xq _:=N0 a gf k l L ar (wk Z) hk O.o.ZbH.srcFi (O.o.ZbH.lt rfl);have b6:L.cell? ⟨v,0,none⟩=some (slice (some ⟨gf,0,none⟩) a.length k):=by rw[ab O.o.d];rfl
 have P:Xq _:=Gy a l (wk Z);have z:Xq _:=NZ a l ar (wk Z) hk;have A:Xq _:=Ag a l ar Z hk;have y:Xq (gO a l=if((CQ (dd a l).1 (aj (dd a l).1)).ZbG==0)=false then Rr (CQ (dd a l).1 (aj (dd a l).1)) else Rr (dd a l).2):=rfl;obtain⟨f,Hf⟩:=aP (gO a l);rw[Hf.o]at y A ⊢;obtain⟨cc,S⟩:=aP ((if(f.1==0)=true then(0:Int) else 6));rw[S.o];obtain⟨⟨T,t⟩,b1⟩:∃Tt,Xq (dd a l=Tt):=⟨_,rfl⟩
 rw[b1.o]at N P z A y ⊢;simp only at N P z A y ⊢;obtain⟨u,Hu⟩:=aP (CQ T (aj T));rw[Hu.o]at A y;have bf:Xq (∀i,(tS T i).size<=1073741824):=fun i=>by
  unfold tS;rw[Xw];cases e:T[i]? with
  | none=>show(0:Nat)<=_;omega
  | some t=>have:=(P.o t (YH e)).1;show t.s.size<=_;omega
 clear hR b5 hf;go_enter func36,ntmps36;go_upto_region 1 with fail
 rw[HW.o];go_upto_region 5 with (go_at_call 34;refine Xx a4.o ?_;rintro e w9 ⟨rfl,bj⟩;rw[bj];clear bj)
 rw[Q.o];clear v0 v1 e1;obtain⟨ts,tr,tf,tl,tc⟩:=t;obtain⟨us,ur,uf,ul,uc⟩:=u;simp only at N;go_upto_region 6 with (go_at_call 53;refine Xx N.o ?_;rintro e w7 ⟨aT,cT,rfl,sT,k7,n7⟩)
 obtain⟨X,G⟩:=aP (w7.alloc (.cells #[int i64 tr,string tf,int i64 tl,int i64 tc] 87));have a5:Xq (aa [] L X):=by show aa _ _ _;rw[<-G.o];exact k7.alloc _
 have bm:Xq _:=dC G.o;have R:Xq (w7.heap.size<=X.heap.size/\L.heap.size<=X.heap.size):=⟨by rw[<-G.o];simp,a5.o.size⟩;have a7:Xq _:=n7;have b0:Xq _:=(Sn T aT cT X (mQ.Zbj sT (by rw[<-G.o];exact bH.alloc _)) (by have:=z.o;omega) bf.o);rw[G.o];clear sT k7 b6 n7;go_upto_region 7 with (go_at_call 54;refine Xx b0.o ?_;rintro e w9 ⟨rfl,aS,cS,d9,k9,n9⟩)
 have al:Xq _:=(Aj X.heap.size T aT cT (aj T) aS cS w9 d9 (by have:=z.o;omega) (WY T (by have:=z.o;omega)) bf.o);rw[Hu.o]at al;simp only at al;have bc:Xq (∀g,aT=some ⟨g,0,none⟩->L.heap.size<=g/\g<w9.heap.size):=fun g J=>⟨(a7.o g J).1,XB (a7.o g J).2 (XF R.o.1 k9.size)⟩
 have ba:Xq (∀g,aS=some ⟨g,0,none⟩->L.heap.size<=g/\g<w9.heap.size):=fun g J=>⟨XF R.o.2 (n9 g J).1,(n9 g J).2⟩
 have bx:Xq _:=a5.o.trans k9;have bo:Xq _:=(k9.get bm.o (by simp));have b2:Xq _:=k9.size;have bq:Xq _:=d9;clear d9 k9 n9;go_upto_region 8 with (go_at_call 55;refine Xx al.o ?_;rintro e b7 ⟨rfl,bl⟩)
 obtain⟨U,D⟩:=aP (b7.alloc (.cells #[int i64 ur,string uf,int i64 ul,int i64 uc] 87));have az:Xq _:=dC D.o;have x:Xq (aa [] w9 U):=by show aa _ _ _;rw[<-D.o];exact bl.alloc _
 have B:Xq _:=bx.o.trans x.o;have a2:Xq _:=gM.Zbj bq.o x.o;have bp:Xq _:=(x.o.get bo.o (by simp));have b:Xq _:=O.o.Zbj B.o;have M:Xq _:=(B.o.get av.o (by simp));have an:Xq _:=am.o.trans (rx B.o);rw[D.o];clear bl;obtain⟨⟨u0,u1,u2,u3⟩,-,uz⟩:=oZ az.o;obtain⟨⟨t0,t1,t2,t3⟩,-,tz⟩:=oZ bp.o;obtain⟨⟨g0,g1,g2,g3⟩,⟨f0,f1,f2,f3⟩,wz⟩:=oZ M.o;cases hu:(ur==0)
 ·have HX:Xq (f=(ur,⟨uf,ul,uc⟩)):=by show _=_;rw[y.o];exact XA hu
  have HC:Xq (cc=6):=cm (by rw[<-S.o,HX.o];exact Xz (fun q=>by have q':(ur==0)=true:=q;rw[hu]at q';cases q'));go_wp2;obtain⟨B1,R1,K1⟩:=zr (u0:=int i64 ur) (u1:=string uf) (u2:=int i64 ul) (u3:=int i64 uc) M.o b.o c.o.1 c.o.2 an.o (Xy _);obtain⟨⟨c0,c1,c2,c3⟩,-,-⟩:=oZ B1;exact XG (v:=tuple #[agg #[int i64 ur,string uf,int i64 ul,int i64 uc],int i64 6]) (by simp[results,results36,go_sem,c0,c1,c2,c3]) rfl (by rw[HC.o,HX.o];exact⟨rfl,⟨(fun q=>by cases q),fun _=>⟨_,_,_,R1⟩⟩,K1⟩)
 ·cases ht:(tr==0)
  ·have HX:Xq (f=(tr,⟨tf,tl,tc⟩)):=(by show _=_;rw[y.o];exact Xz (fun q=>by have q':(ur==0)=false:=q;rw[hu]at q';cases q'));have HC:Xq (cc=6):=cm (by rw[<-S.o,HX.o];exact Xz (fun q=>by have q':(tr==0)=true:=q;rw[ht]at q';cases q'));go_wp2;obtain⟨B1,R1,K1⟩:=zr (u0:=int i64 tr) (u1:=string tf) (u2:=int i64 tl) (u3:=int i64 tc) M.o b.o c.o.1 c.o.2 an.o (Xy _);obtain⟨⟨c0,c1,c2,c3⟩,-,-⟩:=oZ B1;exact XG (v:=tuple #[agg #[int i64 tr,string tf,int i64 tl,int i64 tc],int i64 6]) (by simp[results,results36,go_sem,c0,c1,c2,c3]) rfl (by rw[HC.o,HX.o];exact⟨rfl,⟨(fun q=>by cases q),fun _=>⟨_,_,_,R1⟩⟩,K1⟩)
  ·obtain⟨bg,ag⟩:=A.o hu ht;have ax:Xq _:=ag;have HX:Xq _:=bg;have HC:Xq (cc=0):=cm (by rw[<-S.o,HX.o];rfl);clear bg ag;have x2:U.cell? ⟨v,2,none⟩=some p2:=(by rw[ab b.o.d];rfl);have y2:=zcW b.o.d 2;have Y:=ae b.o.d 2 (pointer (some ⟨X.heap.size,0,none⟩));obtain⟨V,E⟩:=aP (U.setCell ⟨v,2,none⟩ (pointer (some ⟨X.heap.size,0,none⟩)));rw[E.o]at Y;have m:Xq (aa [v] U V):=(by show aa _ _ _;rw[<-E.o];exact(aa.refl [v] _).sl1 _);have ad:Xq _:=gM.off a2.o b.o.d m.o;have a0:Xq _:=(m.o.get M.o (by have:=c.o.1;simp;omega));have af:Xq _:=gZ.keptV (on':=false) b.o m.o Y;have bs:Xq _:=Kc v X.heap.size T aT cT aS cS _ _ _ _ _ _ V Y ad.o z.o P.o ax.o;clear Y;(go_upto_region 13 with fail);rw[E.o];clear x2 y2 u0 u1 u2 u3 uz t0 t1 t2 t3 tz g0 g1 g2 g3 f0 f1 f2 f3 wz;(go_upto_region 14 with (go_at_call 56;refine Xx bs.o ?_;rintro e K ⟨PS,j1,j2,RS,rfl,bk,ai,jw⟩));have a1:Xq _:=(jw.Zbw.get a0.o (by have:=c.o.1;simp;omega));have I:=jw.d;have H:=jw.Zbw;have bd:Xq _:=gZ.keptV (on':=false) af.o H I;have bz:Xq _:=(an.o.trans m.o).trans H;have bw:Xq _:=jw;have bv:Xq _:=bk;have br:Xq _:=ai;have a3:Xq _:=gM.off ad.o af.o.d H;have ao:Xq (w9.heap.size<=V.heap.size/\V.heap.size<=K.heap.size/\X.heap.size<=w9.heap.size):=⟨XF x.o.size m.o.size,H.size,b2.o⟩;have x1:K.cell? ⟨v,1,none⟩=some (bool false):=(by rw[ab I];rfl);have y1:=zcW I 1;have ap:=ae I 1 (bool true);obtain⟨b3,F⟩:=aP (K.setCell ⟨v,1,none⟩ (bool true));rw[F.o]at ap;have r:Xq (aa [v] K b3):=(by show aa _ _ _;rw[<-F.o];exact(aa.refl [v] _).sl1 _);have be:Xq _:=gZ.keptV (on':=true) bd.o r.o ap;have ac:Xq _:=(r.o.get a1.o (by have:=c.o.1;simp;omega));have bT:Xq _:=bz.o.trans r.o;clear jw bk ai I H ap;(go_upto_region 15 with fail);rw[F.o];clear x1 y1;obtain⟨⟨g0,g1,g2,g3⟩,⟨f0,f1,f2,f3⟩,wz⟩:=oZ ac.o;go_wp2;obtain⟨B1,R1,K1⟩:=zr (u0:=int i64 0) (u1:=string ⟨#[]⟩) (u2:=int i64 0) (u3:=int i64 0) ac.o be.o c.o.1 c.o.2 bT.o (Xy _);have KX:aa [v,w.heap.size] K _:=((((r.o.mono (S':=[v,w.heap.size]) (fun q hq _=>by rw[XH.1 hq];exact Yg)).setCell (p:=⟨w.heap.size,0,none⟩) (XQ (by simp)) (int i64 0)).setCell (p:=⟨w.heap.size,1,none⟩) (XQ (by simp)) (string ⟨#[]⟩)).setCell (p:=⟨w.heap.size,2,none⟩) (XQ (by simp)) (int i64 0)).setCell (p:=⟨w.heap.size,3,none⟩) (XQ (by simp)) (int i64 0);obtain⟨⟨c0,c1,c2,c3⟩,-,-⟩:=oZ B1;exact XG (v:=tuple #[agg #[int i64 0,string ⟨#[]⟩,int i64 0,int i64 0],int i64 0]) (by simp[results,results36,go_sem,c0,c1,c2,c3]) rfl (by rw[HC.o,HX.o];exact⟨rfl,⟨fun _=>⟨L.heap.size,am.o.size,Td bw.o a3.o R1 KX (XB c.o.1 am.o.size) (ah av.o) (by have:=R.o;have:=ao.o;omega) R.o.2 (fun g J=>⟨(bc.o g J).1,by have:=(bc.o g J).2;have:=ao.o;omega⟩) (fun g J=>⟨(ba.o g J).1,by have:=(ba.o g J).2;have:=ao.o;omega⟩) bv.o br.o⟩,fun q=>absurd rfl q⟩,K1⟩)
theorem JV(h:l<v):aI (H.take v) l=aI H l/\ak (H.take v) l=ak H l:=by
 unfold aI ak;rw[Xw,ZH,XA h,Xw];exact⟨rfl,rfl⟩
theorem pD.take(h:pD n p w d)(k:Nat)(f:k<=d.length):pD n p w (d.take k):=by
 have b:(d.take k).length=k:=by rw[YL];omega
 refine⟨by rw[b];exact XF f h.1,fun j a=>?_⟩;rw[b]at a;obtain⟨c,e⟩:=JV d k j a;rw[c,e];exact h.2 j (by omega)
theorem Rk(h:pD n (some ⟨w,0,none⟩) x d)(j:Nat)(u:Value)(a:(uA d)[j]?=some u):n.cell? ⟨w,j,none⟩=some u:=by
 have k:j<d.length*2:=by
  rw[<-zq];exact(XL.1 a).1
 obtain⟨i,e,-,b,c⟩:=h.2 (j / 2) (by omega);cases e
 obtain⟨f,g⟩:=Ah d (j / 2) (by omega);rcases ZaD j with e | e
 ·rw[show j / 2*2=j by omega]at b f;rw[f]at a;rw[b,<-a]
 ·rw[show j / 2*2+1=j by omega]at c g;rw[g]at a;rw[c,<-a]
def LdR(w:World)(v:Nat)(h:Hd)(fs:Fs)(p2 p3 p4:Value)(r:Int)(w':World):Prop:=(r=0->∃h',gZ w' v fs h' false p2 p3 p4/\aa (v :: h.Zbx.toList) w w'/\∀b,h'.Zbx=some b->h.Zbx=some b∨w.heap.size<=b)/\(r≠0->aa [] w w')
theorem LdR.stay{r:Int}(a:r≠0)(b:aa [] n k):LdR n w D d I M N r k:=⟨fun e=>absurd e a,fun _=>b⟩
theorem gZ.newRow{b:Fs}(a:gZ n w d D z2 I M N)(p:aa [] n k)(o:aD k c (dq b))(j:∀q,c.Zbx=some q->n.heap.size<=q)(l:b.length<=4)(m:x=b.length):gZ (k.setCell ⟨w,0,none⟩ (slice c.ao x c.cap)) w b c z2 I M N:=by
 have i:=p.get a.d (by simp);have t:=ah a.d;have f:c.Zbx≠some w:=fun s=>by have:=j w s;omega
 have r:aa [w] k (k.setCell ⟨w,0,none⟩ (slice c.ao x c.cap)):=(aa.refl _ _).sl1 _;subst m;exact⟨by rw[ae i];rfl,o.Zbo (fun q g=>r.block q (o.lt g) (by simp;intro e;exact f (by rw[<-e];exact g))),f,l⟩
theorem Kh(a:Fs)(h:Hd)(on:Bool)(p2 p3 p4:Value)(E:Xt)(i:Nat)(w:World)(hR:gZ w z0 H h on p2 p3 p4)(hS:pD w E i a)(hn:E=none->a.length=0/\i=0)(ha:∀B,E=some B->∃g,B=⟨g,0,none⟩)(P:∀j,j<a.length->(aI a j).size<=1073741824/\(ak a j).size<=1073741824) :
  Calls prog 30 #[pointer (some ⟨z0,0,none⟩),slice E a.length i] w fun e t=>e=returned (int i64 (eC a))/\LdR w z0 h (kU H a) p2 p3 p4 (eC a) t:=by
 have HR:Xq _:=hR;by_cases h4:4<a.length
 ·have G:Xq (eC a=1):=by show _=_;unfold eC;rw[XA h4]
  rw[G.o];have am:(4:Int)<a.length:=by omega
  clear hR;go_enter func30,ntmps30;go_wp2;go_ret;exact⟨rfl,LdR.stay (by decide) (aa.refl _ _)⟩
 ·have G:Xq (eC a=eO (Jq a) a.length):=by show _=_;unfold eC;rw[Xz h4]
  obtain⟨r,Hr⟩:=aP (eC a);rw[Hr.o]at G ⊢;have am:¬(4:Int)<a.length:=by omega
  have V:Xq _:=hS;have HN:Xq _:=hn;have X:Xq _:=ha;have K:Xq _:=P;obtain⟨iF,av,R,S,T⟩:=XV Ez;clear hR hS hn ha P;go_enter func30,ntmps30;go_wp2
  go_loopg [5] a.length (fun g iv wr=>∃k:Nat,k<=a.length/\g=a.length-k/\iv=int i64 k/\Xq (eO (Jq a) k=0)/\Xq (aa [] w wr))
  ·exact⟨0,by omega,rfl,rfl,rfl,aa.refl _ _⟩
  obtain⟨k,hk,hg,rfl,HZ,x⟩:=hrel;rcases kn k a.length with ⟨s,aT⟩ | ⟨s,-⟩
  ·have aS:(0:Int)<=(k:Int):=(by omega);have az:=V.o.1;obtain⟨C,rfl,y,c0,c1⟩:=(pD.Zbj V.o x.o).2 k s;have HC:Xq (∀t,aa [] wr t->t.cell? ⟨C,k*2,none⟩=some (string (aI a k))/\t.cell? ⟨C,k*2+1,none⟩=some (string (ak a k))/\C<t.heap.size):=fun t kw=>⟨by rw[XJ (kw.block C y (by simp))];exact c0,by rw[XJ (kw.block C y (by simp))];exact c1,XB y kw.size⟩
   have z:Xq (∀v,aa [] wr v->Calls prog 34 #[slice (some ⟨C,0,none⟩) k i,string (aI a k)] v fun e t=>e=returned (int i64 (bV (a.take k) (aI a k)))/\t=v):=fun v kx=>by
    have hl:(a.take k).length=k:=(by rw[YL];omega);have:=oJ (a.take k) (some ⟨C,0,none⟩) i (aI a k) v (by omega) (pD.take (pD.Zbj V.o (x.o.trans kx)) k hk);rw[hl]at this;exact this
   have F:Xq (∀v,Calls prog 33 #[string (aI a k),string (ak a k)] v fun e t=>e=returned (int i64 (dE (aI a k) (ak a k)))/\t=v):=fun v=>Gw _ _ v (K.o k s).1 (by have:=(K.o k s).2;omega);have l:Xq (Jq a k=if(dE (aI a k) (ak a k)==0)=false then dE (aI a k) (ak a k) else if 0<=bV (a.take k) (aI a k) then 4 else 0):=rfl;have J:Xq ((Jq a k==0)=false->r=Jq a k):=fun q=>by rw[G.o];exact rk HZ.o q s
   have Y:Xq (Jq a k=0->eO (Jq a) (k+1)=0):=fun q=>by rw[eO,HZ.o];exact q
   generalize aI a k=nm at *;generalize ak a k=dt at *;obtain⟨ck,ai⟩:=aP (dE nm dt);rw[ai.o]at F l;obtain⟨fi,al⟩:=aP (bV (a.take k) nm);rw[al.o]at z l;(go_upto_region 6 with fail);go_region_with (go_at_call 33;refine(F.o _).mono ?_;rintro e U ⟨rfl,ax⟩)
   all_goals
    subst ax;obtain⟨U,H9⟩:=aP (wr.drew);rw[H9.o];have f:Xq (aa [] wr U):=by show aa _ _ _;rw[<-H9.o];exact(aa.refl [] wr).drew
    clear c0 c1 y;cases c:(ck==0)
    ·rw[c,XA rfl]at l;have p:Xq _:=(J.o (by rw[l.o];exact c));rw[l.o]at p;have ar:(ck != 0)=true:=(by unfold bne;rw[c];rfl);go_wp2;go_ret;exact⟨au p.o.symm,LdR.stay (by rw[p.o];exact fun q=>by rw[q]at c;cases c) (x.o.trans f.o)⟩
    ·rw[c,Xz (by simp)]at l;have ar:(ck != 0)=false:=(by unfold bne;rw[c];rfl);obtain⟨d0,d1,d2⟩:=HC.o U f.o;by_cases N:0<=fi
     ·rw[XA N]at l;have p:Xq _:=(J.o (by rw[l.o];rfl));rw[l.o]at p;(go_upto_region 9 with fail);go_region_with (go_at_call 34;refine(z.o _ (by exact f.o.drew)).mono ?_;rintro e w8 ⟨rfl,D⟩)
      all_goals
       subst D;have A:Xq (aa [] w U.drew):=(x.o.trans f.o).drew;go_wp2;go_ret;exact⟨au p.o.symm,LdR.stay (by rw[p.o];decide) A.o⟩
     ·rw[Xz N]at l;have HM:Xq _:=Y.o l.o;(go_upto_region 9 with fail);go_region_with (go_at_call 34;refine(z.o _ (by exact f.o.drew)).mono ?_;rintro e w8 ⟨rfl,D⟩)
      all_goals
       subst D;have A:Xq (aa [] w U.drew):=(x.o.trans f.o).drew;go_wp2;go_roundg (a.length-(k+1))
       ·exact⟨k+1,by omega,rfl,by go_num,HM,A⟩
       omega
  ·have e:k=a.length:=(by omega);subst e;have p:Xq (r=0):=cm (by rw[G.o];exact HZ.o);have a0:¬(a.length:Int)<a.length:=by omega
   have I:Xq _:=HR.o.Zbj x.o;have ap:aD wr ⟨none,0⟩ (dq []):=XE _ _ _ _;have af:Xq _:=pD.Zbj V.o x.o;have aq:Xq (∀B,E=some B->∀j u,(uA a)[j]?=some u->wr.cell? (B.add j)=some u):=fun B e j u hu=>by
    obtain⟨g,rfl⟩:=X.o B e;rw[bE];exact Rk (by rw[<-e];exact af.o) j u hu
   have an:Xq ((dq ([]:Fs)).n+a.length<=1000000000):=(by show 0+a.length<=_;omega);have ac:Xq (∀m:Nat,(dq ([]:Fs)).n+m=m):=fun m=>Zf m;(go_upto_region 12 with fail);go_wp2_with (at_builtin;refine dK _ rfl (.const (slice none 0 0)) (.tmp 43) 33 rfl iF (agg #[string ⟨#[]⟩,string ⟨#[]⟩]) 32 ⟨none,0⟩ (dq []) underlying33 av R S T rfl Zaz rfl ap E a.length i (uA a) rfl (zq a) HN.o aq.o (Mq a) an.o (by omega) ?_;intro h5 w5 Q O;have K5:aa [] wr w5:=(O.Zbw.mono (by simp[Hd.Zbx]));have L:=K5.get I.o.d (by simp);have v0:w5.cell? ⟨z0,0,none⟩=some (slice h.ao H.length h.cap):=(by rw[ab L];rfl);have v1:w5.cell? ⟨z0,1,none⟩=some (bool on):=(by rw[ab L];rfl);have e0:=zcW L 0;have e1:=zcW L 1;have vz:=ah L);go_ret;have er:(⟨(dq []).e,(dq []).size,(dq []).n+a.length,(dq []).xs++uA a⟩:eD)=dq a:=by
    show eD.mk _ _ (0+a.length) ([]++uA a)=_;rw[Zf];rfl
   rw[er]at Q;have M:∀q,h5.Zbx=some q->wr.heap.size<=q:=by
    intro q W;rcases O.Zbx with e | ⟨g,e,hg⟩
    ·rw[e]at W;cases W
    ·rw[e]at W;cases W;exact hg
   have Z:=(I.o.newRow K5 Q M (by omega) (ac.o a.length)).off;have ag:Xq _:=C9 (fs0:=H) (Hr.o.trans p.o);exact⟨au p.o.symm,by rw[ag.o];exact⟨fun _=>⟨h5,Z,(((x.o.trans K5).mono (by simp)).sl1 _).sl1 _,fun b hb=>XK (XF x.o.size (M b hb))⟩,fun q=>absurd p.o q⟩⟩
end Go.Proofs.YtpdholcaobgofaaGreat

import Derived.Test.YtnbhnocdhbcbcaaGreatK02
import Derived.Test.YtnbhnocdhbcbcaaGreatK22
import Derived.Test.YtnbhnocdhbcbcaaGreatK25
namespace Go.Proofs.YtnbhnocdhbcbcaaGreat
open Go.RowKit Tryz
open Value IntKind Ending
set_option maxHeartbeats 0
variable{i z4:Xs}{w x u t y5 y6:Nat}{z1:Xt}{y:List Tk}{z6:Tk}{o:List Sm}{n k:World}{p y0:Xu}{z7:Xv}{I M N z5 y7 y9:Value}{d:Fs}{D c:Hd}{z2:Bool}(z0:Nat)(H:Fs)(g L:Xs)(v l:Nat)(b:List Tk)(z3:Nat->List Bool->List Tk->List Tk×List Bool)
theorem cw{l m:List UInt8}(h:(i.toList==l)=true):(i.toList==m)=(l==m):=by
 have:i.toList=l:=by simpa using h
 rw[this]
section
variable {T:List Tk} {S:List Sm} {f:Nat}
structure tD(T:List Tk)(S:List Sm)(j:Nat):Prop where
 le:(aq S j).h<=(aq S j).z-1
 zt:(aq S j).z<=T.length
 pos:0<(aq S j).z
 dot:((tS T ((aq S j).z-1)).toList == [36,46])=true
 cl:i9 (aq S j).k (eF T (aq S j).h ((aq S j).z-1))=0
 w:∀q,(aq S j).h<=q->q<(aq S j).z-1->mH T S (aq S j).k (tS T q) j (eF T (aq S j).h q)=0/\cd (tS T q)=false
theorem lx(p:Cv T T.length S f)(c:∀q,q<T.length->aY T S q=0)(j:Nat)(h:j<S.length)(u:cd (aq S j).k=false):tD T S j:=by
 have t:=Cn p j h;obtain⟨P,o⟩:=p.s j h;have b:(aq S j).h<=(aq S j).z-1->(aq S j).a<(aq S j).h->tD T S j:=fun l A=>by
  have B:=P.lt;have r:=c ((aq S j).z-1) (by omega);rw[t ((aq S j).z-1) (by omega) (by omega),To (by omega),To (by omega)]at r;obtain⟨v,w⟩:=yp P.e r;refine⟨l,o,by omega,v,w,fun q F y=>?_⟩;have Q:=c q (by omega);rw[t q (by omega) (by omega),To (by omega),To (by omega)]at Q;exact⟨Q,P.n q (by omega) y⟩
 have d:=P.k;have G:=P.lt;unfold ee at d;by_cases g:(ii (tS T (aq S j).a) ⟨#[36]⟩||decide (T.length<=(aq S j).a+1))=true
 ·rw[Tq g]at d;have i:(aq S j).k=tS T (aq S j).a:=congrArg Prod.fst d;have x:(aq S j).h=(aq S j).a+1:=congrArg Prod.snd d;refine b ?_ (by omega);by_cases C:(aq S j).z-1=(aq S j).a
  ·have:=P.e;rw[C,<-i,u]at this;cases this
  ·omega
 ·rw[To g]at d;have i:(aq S j).k=tS T ((aq S j).a+1):=congrArg Prod.fst d;have x:(aq S j).h=(aq S j).a+2:=congrArg Prod.snd d;have m:ii (tS T (aq S j).a) ⟨#[36]⟩=false:=by
   cases e:ii (tS T (aq S j).a) ⟨#[36]⟩
   ·rfl
   ·rw[e]at g;exact absurd rfl g
  refine b ?_ (by omega);have D:(aq S j).z-1≠(aq S j).a:=fun e=>by
   have:=(ly P.e).1;rw[e,m]at this;cases this
  have E:(aq S j).z-1≠(aq S j).a+1:=fun e=>by
   have:=P.e;rw[e,<-i,u]at this;cases this
  omega
theorem tH(T:List Tk)(h i q:Nat)(a:h+q<i)(b:i<=T.length):(eF T h i).getD q ⟨#[]⟩=tS T (h+q):=by
 unfold eF tS;rw[Tn,T0,VW,Tq (by omega),Vy,Tn];rw[Tm (by omega)];rfl
theorem nG(T:List Tk)(h i:Nat)(a:h<=i)(b:i<=T.length):(eF T h i).length=i-h:=by
 unfold eF;rw[TR,UI,Uw];omega
theorem uC(P:tD T S w):bB T (aq S w).h=(eF T (aq S w).h ((aq S w).z-1)).takeWhile jy:=by
 have i:=P.zt;have g:=P.pos;have c:=P.le;unfold bB;have e:T.drop (aq S w).h=(T.drop (aq S w).h).take ((aq S w).z-1-(aq S w).h)++(T.getD ((aq S w).z-1) gQ) :: T.drop (aq S w).z:=by
  conv=>lhs;rw[<-List.take_append_drop ((aq S w).z-1-(aq S w).h) (T.drop (aq S w).h)]
  rw[List.drop_drop,show(aq S w).h+((aq S w).z-1-(aq S w).h)=(aq S w).z-1 by omega,Id T ((aq S w).z-1) (by omega),show(aq S w).z-1+1=(aq S w).z by omega]
 rw[e,show ∀(L:List Tk) (t:Tk) (M:List Tk),L++t :: M=(L++[t])++M from fun L t M=>by simp,zH]
 ·rw[tI _ _ (fun u f=>?_) P.dot]
  ·rfl
  ·obtain⟨q,d,a⟩:=Ux f;rw[UI,Uw]at d;have:=(P.w ((aq S w).h+q) (by omega) (by omega)).2;unfold cd at this;simp only[Bool.or_eq_false_iff]at this;have b:u.s=tS T ((aq S w).h+q):=by
    rw[<-a,List.getElem_take,V9];unfold tS;rw[Tn,Tm (by omega)];rfl
   rw[b];exact this.1.1
 ·exact⟨T.getD ((aq S w).z-1) gQ,by simp,uD P.dot⟩
theorem vE(P:tD T S w):dU T (aq S w).h:=⟨(aq S w).z-1,P.le,by have:=P.zt;have:=P.pos;omega,uD P.dot⟩
theorem wQ(h:mH T S i z4 w z1=0)(a:(z4.toList == [36,61])=true):(i.toList == [36,112])=true/\aK z1 ⟨#[36,61]⟩=false/\z1.length≠0:=by
 unfold mH at h;rw[cw a (m:=[36,46]),To (by decide),a,U5]at h;cases b:(i.toList == [36,112])
 ·rw[b,Vr,To (by simp),Tq (by rw[qH a];decide +kernel)]at h;cases h
 ·cases c:aK z1 ⟨#[36,61]⟩
  ·rw[b,c]at h;by_cases d:z1.length=0
   ·rw[Tq (by rfl),Tq d]at h;cases h
   ·exact⟨rfl,rfl,d⟩
  ·rw[b,c,To (by decide),Tq (by rw[qH a];decide +kernel)]at h;cases h
end
section
variable {T:List Tk} {S:List Sm} {f:Nat}
theorem AY(T:List Tk)(h:Nat):eF T h h=[]:=by unfold eF;rw[Uy];simp
theorem wU(P:tD T S w):0<(eF T (aq S w).h ((aq S w).z-1)).length/\(((aq S w).k.toList == [36,102])=true->1<(eF T (aq S w).h ((aq S w).z-1)).length):=by
 have a:=P.cl;unfold i9 at a;split at a
 ·cases a
 ·next e =>
  split at a
  ·cases a
  ·next b =>
   refine⟨by omega,fun c=>?_⟩;have:¬(eF T (aq S w).h ((aq S w).z-1)).length<2:=fun d=>b (by rw[c];simp[d]);omega
theorem wE(c:w<=x)(a:x<=T.length)(f:aK (eF T w x) i=true):∃q,w<=q/\q<x/\tS T q=i:=by
 unfold aK at f;obtain⟨y,k,e⟩:=Us.1 f;obtain⟨q,d,g⟩:=Ux k;rw[nG T w x c a]at d;refine⟨w+q,by omega,by omega,?_⟩;have b:=tH T w x q (by omega) a;rw[Tn,Tm (by rw[nG T w x c a];exact d)]at b;have j:(eF T w x)[q]=tS T (w+q):=b;rw[<-j,g];have:y.toList=i.toList:=by simpa using e
 apply Xg;apply Wf.1;rw[<-Un,<-Un,this]
theorem vD(P:tD T S w)(d:((aq S w).k.toList == [36,112])=false):bB T (aq S w).h=eF T (aq S w).h ((aq S w).z-1):=by
 rw[uC P];refine tY _ ?_;cases e:aK (eF T (aq S w).h ((aq S w).z-1)) ⟨#[36,61]⟩
 ·rfl
 ·have i:=P.zt;have g:=P.pos;obtain⟨q,b,c,a⟩:=wE P.le (by omega) e;have f:=(P.w q b c).1;have:=(wQ f (by rw[a];decide +kernel)).1;rw[d]at this;cases this
theorem vC(P:tD T S w):((tS T (aq S w).h).toList == [36,61])=false/\(aq S w).h<(aq S w).z-1:=by
 have b:=(wU P).1;have f:=P.zt;have d:=P.pos;rw[nG T _ _ P.le (by omega)]at b;have a:(aq S w).h<(aq S w).z-1:=by omega
 refine⟨?_,a⟩;cases e:((tS T (aq S w).h).toList == [36,61])
 ·rfl
 ·have c:=(P.w _ (Tp _) a).1;have:=(wQ c e).2.2;rw[AY]at this;exact absurd rfl this
theorem Av(P:tD T S w):0<(bB T (aq S w).h).length/\(bB T (aq S w).h).getD 0 ⟨#[]⟩=tS T (aq S w).h:=by
 obtain⟨b,f⟩:=vC P;have g:=P.zt;have a:=tH T (aq S w).h ((aq S w).z-1) 0 (by omega) (by omega);have c:=(wU P).1;rw[uC P];rw[Vd]at a;generalize eF T (aq S w).h ((aq S w).z-1)=B at *;cases B with
 | nil=>simp at c
 | cons x B =>
  have e:x=tS T (aq S w).h:=a;have d:jy x=true:=by unfold jy;rw[e,b];rfl
  rw[Vb d];exact⟨by simp,e⟩
theorem QD(p:Cv T T.length S f)(b:∀q,q<T.length->aY T S q=0)(n:Nat)(i:n<=S.length):LR T S n:=fun j g c=>by
 have a:cd (aq S j).k=false:=by
  unfold aA aH at c;simp only[Bool.or_eq_true]at c;rcases c with (h | h) | (h | h) <;> exact fN h (by decide)
 have P:=lx p b j (by omega) a;refine⟨(Av P).1,fun e=>?_⟩;have d:((aq S j).k.toList == [36,112])=false:=by rw[cw e];decide
 show 1<(bB T (aq S j).h).length;rw[vD P d];exact(wU P).2 e
theorem uq(h:mH T S i z4 w z1=0)(a:cd z4=false)(d:(z4.toList == [36,61])=false)(b:aK z1 ⟨#[36,61]⟩=false):(if((i.toList == [36,99])||(i.toList == [36,118]))=true then j6 T S z4 w (i.toList == [36,99]) z1 else il T S i z4 w z1)=0:=by
 unfold mH at h;have c:(z4.toList == [36,46])=false:=by
  unfold cd at a;simp only[Bool.or_eq_false_iff]at a;exact a.1.1
 rw[c,d,b,To (by simp),Vr,To (by simp)]at h;split at h
 ·cases h
 ·exact h
theorem Es(P:tD T S w)(c:(aA (aq S w).k||aH (aq S w).k)=true):eK T S (tS T (aq S w).h) w=true:=by
 obtain⟨e,f⟩:=vC P;obtain⟨d,i⟩:=P.w _ (Tp _) f;rw[AY]at d;have b:=uq d i e rfl;have a:(((aq S w).k.toList == [36,99])||((aq S w).k.toList == [36,118]))=false/\((aq S w).k.toList == [36,100])=false:=by
  unfold aA aH at c;simp only[Bool.or_eq_true]at c;rcases c with (h | h) | (h | h) <;> (rw[cw h,cw h,cw h];decide)
 rw[a.1,To (by simp)]at b;unfold il at b;rw[a.2,To (by simp),Tq (by rfl)]at b;cases g:eK T S (tS T (aq S w).h) w
 ·rw[g,Tq rfl]at b;cases b
 ·rfl
theorem MI(P:tD T S w)(a:((aq S w).k.toList == [36,102])=true):iE T S (tS T ((aq S w).h+1)) w=true/\(bB T (aq S w).h).getD 1 ⟨#[]⟩=tS T ((aq S w).h+1):=by
 have l:=(wU P).2 a;have p:=P.zt;have o:=P.pos;rw[nG T _ _ P.le (by omega)]at l;have b:((aq S w).k.toList == [36,112])=false:=by rw[cw a];decide
 have j:=tH T (aq S w).h ((aq S w).z-1) 1 (by omega) (by omega);refine⟨?_,by rw[vD P b];exact j⟩;obtain⟨f,i⟩:=P.w ((aq S w).h+1) (by omega) (by omega);have m:((tS T ((aq S w).h+1)).toList == [36,61])=false:=by
  cases e:((tS T ((aq S w).h+1)).toList == [36,61])
  ·rfl
  ·have:=(wQ f e).1;rw[b]at this;cases this
 have d:eF T (aq S w).h ((aq S w).h+1)=[tS T (aq S w).h]:=by
  have:=CD T (aq S w).h (aq S w).h (Tp _) (by omega);rw[AY]at this;exact this
 have g:aK (eF T (aq S w).h ((aq S w).h+1)) ⟨#[36,61]⟩=false:=by
  rw[d,sN];have e:(⟨#[36,61]⟩:Xs).toList=[36,61]:=by decide +kernel
  rw[e];exact(vC P).1
 have c:=uq f i m g;rw[cw a,cw a,To (by decide)]at c;unfold il at c;rw[d,cw a,To (by decide),To (by simp),a,Tq rfl,To (by simp)]at c;cases n:iE T S (tS T ((aq S w).h+1)) w
 ·rw[n,Tq rfl]at c;cases c
 ·rfl
theorem mC(p:Cv T T.length S f)(n:∀q,q<T.length->aY T S q=0)(hi:w<=S.length)(hk:x<=S.length)(s:eK T S i w=true)(t:iE T S i x=true):False:=by
 unfold eK jF at s;unfold iE jF at t;obtain⟨j,u,v⟩:=Us.1 s;obtain⟨m,I,y⟩:=Us.1 t;have u:=TF.1 u;have I:=TF.1 I;unfold oP at v y;rw[oX.1,TM,TM]at v;rw[oX.2,TM,TM]at y;obtain⟨l,G,-⟩:=v;obtain⟨F,L,-⟩:=y;have c:∀(j:Nat),j<S.length->(((aq S j).k.toList == [36,99])=true∨((aq S j).k.toList == [36,118])=true)->aK (bB T (aq S j).h) i=true->∃B,j6 T S i j ((aq S j).k.toList == [36,99]) B=0:=fun j u a H=>by
  have d:cd (aq S j).k=false:=by rcases a with h | h <;> exact fN h (by decide)
  have P:=lx p n j u d;have o:((aq S j).k.toList == [36,112])=false:=by rcases a with h | h <;> (rw[cw h];decide)
  rw[vD P o]at H;have hz:=P.zt;have Y:=P.pos;obtain⟨q,E,K,e⟩:=wE P.le (by omega) H;obtain⟨W,V⟩:=P.w q E K;have b:∀q,(aq S j).h<=q->q<(aq S j).z-1->((tS T q).toList == [36,61])=false:=fun q s t=>by
   cases e:((tS T q).toList == [36,61])
   ·rfl
   ·have:=(wQ (P.w q s t).1 e).1;rw[o]at this;cases this
  have Q:aK (eF T (aq S j).h q) ⟨#[36,61]⟩=false:=by
   cases O:aK (eF T (aq S j).h q) ⟨#[36,61]⟩
   ·rfl
   ·obtain⟨Z,M,a2,N⟩:=wE E (by omega) O;have:=b Z M (by omega);rw[N]at this;exact absurd this (by decide +kernel)
  have J:=uq W V (b q E K) Q;rw[Tq (by rcases a with h | h <;> rw[h] <;> simp),e]at J;exact⟨_,J⟩
 obtain⟨B1,g⟩:=c j (by omega) (TG l) G;obtain⟨B2,k⟩:=c m (by omega) (TA F) L;have r:((aq S m).k.toList == [36,99])=false:=by rw[cw F];decide
 rw[l]at g;rw[r]at k;unfold j6 at g k;rcases Ww j m with D | A | C
 ·have R:eK T S i m=true:=by
   unfold eK jF;exact na j D (by unfold oP;rw[oX.1,l,G];simp)
  rw[R]at k;split at k
  ·cases k
  ·simp at k
 ·rw[A,r]at l;cases l
 ·have U:jF T S ⟨#[36,118]⟩ i j false=true:=by
   unfold jF;exact na m C (by unfold oP;rw[oX.2,F,L];simp)
  have X:jL T S i j=true:=by unfold jL;rw[U];simp
  rw[X]at g;split at g
  ·cases g
  ·simp at g
theorem So(p:Cv T T.length S f)(a:∀q,q<T.length->aY T S q=0)(n:Nat)(A:n<=S.length):QP T S n:=fun r B g=>by
 have P:=lx p a r (by omega) (by unfold aA at g;rcases Uk _ _ ▸ g with h | h <;> exact fN h (by decide));have w:=Es P (by rw[g];rfl);have s:(bb T S r).getD 0 ⟨#[]⟩=tS T (aq S r).h:=(Av P).2;rw[s];cases e:aK (bL T S (a9 T S r) (a9 T S r).length) (tS T (aq S r).h)
 ·rfl
 ·exfalso
  unfold aK at e;obtain⟨y,l,d⟩:=Us.1 e;unfold bL at l;obtain⟨i,k,rfl⟩:=UF.1 l;unfold sZ at k;obtain⟨b,c⟩:=Uj.1 k;have b:=TF.1 b;have v:(a9 T S r).getD i 0=(a9 T S r)[i]:=by rw[Tn,Tm b];rfl
  unfold si at c;rw[v]at c d;have z:=qE T S r (a9 T S r)[i] (TO b);generalize (a9 T S r)[i]=j at *;have o:=lx p a j (by omega) (fN c (by decide));obtain⟨m,x⟩:=MI o c;have t:bb T S j=bB T (aq S j).h:=rfl;rw[t,x]at d;have u:tS T ((aq S j).h+1)=tS T (aq S r).h:=by
   have:(tS T ((aq S j).h+1)).toList=(tS T (aq S r).h).toList:=(by simpa using d);apply Xg;apply Wf.1;rw[<-Un,<-Un,this]
  rw[u]at m;exact mC p a (by omega) (by omega) w m
end
theorem OD(d:b.length<=10000)(a:∀q,q<b.length->aY b (aa b) q=0)(n:Nat)(g:n<=(aa b).length):px b (aa b) n:=by
 have p:=dN b;have k:(aa b).length<=b.length:=pJ b b.length;obtain⟨i,c⟩:=BD b (by omega) a;have h:px b (aa b) (aa b).length:=⟨i,by omega,d,fun j e f=>vE (lx p a j e f),c⟩;exact h.mono g
def G7(S:List Sm)(a r:Nat):Prop:=r<a/\(aA (aq S r).k||aH (aq S r).k)=true
structure QO(T:List Tk)(S:List Sm)(a i:Nat)(s:di):Prop where
 nd:s.need<=10000
 XO:s.ref=-1∨(s.ref=-2/\s.back<i)∨∃r,G7 S a r/\s.ref=(r:Nat)/\s.need=gM T S (r:Nat)
def n8(T:List Tk)(S:List Sm)(a:Nat)(P:List di):Prop:=∀i,i<P.length->QO T S a i (bN P i)
section
variable {T:List Tk} {S:List Sm} {a:Nat}
theorem n8.snoc{P:List di}{s:di}(h:n8 T S a P)(f:QO T S a P.length s):n8 T S a (P++[s]):=fun i d=>by
 rw[Tu,Ui,Up]at d;by_cases e:i<P.length
 ·have b:bN (P++[s]) i=bN P i:=by unfold bN;rw[Tn,Tn,TP e]
  rw[b];exact h i e
 ·have c:i=P.length:=by omega
  have b:bN (P++[s]) i=s:=by unfold bN;rw[c,Tn,TI (Tp _),Uy];rfl
  rw[b,c];exact f
theorem n8.nil:n8 T S a []:=fun i b=>by simp at b
theorem DB(b:a<=10000)(c:w<a):gM T S (w:Nat)<=10000:=by
 unfold gM;split
 ·omega
 ·split
  ·have:=ny T S (w:Int).toNat;rw[Uq]at this ⊢;omega
  ·omega
theorem Az(h:dX T S a i=(w:Int)):G7 S a w:=by
 have d:=rg T S a i;rw[h]at d;rcases d with e | ⟨q,l,e⟩
 ·omega
 ·have f:w=q:=by omega
  subst f;refine⟨l,?_⟩;unfold dX at h;split at h
  ·omega
  ·split at h
   ·unfold bC at h;cases c:(List.range a).find? (mO T S i) with
    | none=>rw[c]at h;simp at h
    | some j =>
     rw[c]at h;have g:j=w:=by have h:(j:Int)=(w:Int):=h;omega
     have b:=Vg c;rw[g]at b;unfold mO at b;rw[TM]at b;cases k:(aA (aq S w).k||aH (aq S w).k)
     ·exfalso
      have:bR T (aq S w)=⟨#[]⟩:=(by unfold bR;rw[k,To (by simp)]);rw[this]at b;exact absurd b.1 (by decide +kernel)
     ·rfl
   ·omega
theorem MG(m:a<=10000)(e:Nat)(n:Nat):∀i P,n8 T S a P->n8 T S a (mq T S a e n i P).st/\((mq T S a e n i P).why=0->0<(mq T S a e n i P).st.length)/\(mq T S a e n i P).st.length<=P.length+n:=by
 induction n with
 | zero =>
  intro i P d;rw[mq];split
  ·exact⟨n8.nil,fun h=>(by cases h),Ub _⟩
  ·exact⟨d,fun _=>(by simp only;omega),(by simp)⟩
 | succ n l =>
  intro i P d;rw[mq];split
  ·obtain⟨b,c,f⟩:=l (i+1) _ (d.snoc (s:=⟨-1,0,0,(T.getD i gQ).XY,(T.getD i gQ).XZ,(T.getD i gQ).X0⟩) ⟨by show 0<=10000;omega,TG rfl⟩);exact⟨b,c,by simp at f ⊢;omega⟩
  ·split
   ·exact⟨n8.nil,fun h=>(by cases h),Ub _⟩
   ·next b c =>
    obtain⟨k,g⟩:∃k:Nat,dX T S a (tS T i)=k:=⟨(dX T S a (tS T i)).toNat,by omega⟩
    have j:=Az g;rw[g];obtain⟨b,c,f⟩:=l (i+1) _ (d.snoc (s:=⟨(k:Int),0,gM T S (k:Int),(T.getD i gQ).XY,(T.getD i gQ).XZ,(T.getD i gQ).X0⟩) ⟨DB m j.1,TA (TA ⟨k,j,rfl,rfl⟩)⟩);exact⟨b,c,by simp at f ⊢;omega⟩
theorem Oa(A:a<=10000)(d:Xv)(n:∀r∈d,G7 S a r)(v:Lt)(L:List Lt):∀P b f g,n8 T S a P->(∀t∈b,t<P.length)->(g=true->0<P.length) ->
  n8 T S a (mK T S d v L P b f g).st/\((mK T S d v L P b f g).why=0->0<(mK T S d v L P b f g).st.length)/\(mK T S d v L P b f g).st.length<=P.length+L.length:=by
 induction L with
 | nil =>
  intro P b f g o _ _;rw[mK];split
  ·exact⟨n8.nil,fun h=>(by cases h),Ub _⟩
  ·split
   ·exact⟨n8.nil,fun h=>(by cases h),Ub _⟩
   ·exact⟨o,fun _=>(by simp only;omega),(by simp)⟩
 | cons l L w =>
  intro P b f g o p z;rw[mK];split
  ·obtain⟨i,j,k⟩:=w P b (f++wG l.c) false o p (fun h=>by cases h);exact⟨i,j,by simp at k ⊢;omega⟩
  ·split
   ·split
    ·exact⟨n8.nil,fun h=>(by cases h),Ub _⟩
    ·next y =>
     have B:=Ad (f++wG l.c) (d.length+b.length);generalize gu (f++wG l.c) (d.length+b.length)=m at *;have D:QO T S a P.length (pP T S d b m l):=by
      unfold pP;split
      ·next C =>
       have q:m-1<d.length:=(by omega);have e:d.getD (m-1) 0=d[m-1]:=(by rw[Tn,Tm q];rfl);have x:=n d[m-1] (TO q);rw[e];exact⟨DB A x.1,TA (TA ⟨_,x,rfl,rfl⟩)⟩
      ·next C =>
       have q:m-d.length-1<b.length:=(by omega);have e:b.getD (m-d.length-1) 0=b[m-d.length-1]:=(by rw[Tn,Tm q];rfl);rw[e];exact⟨by show 0<=10000;omega,TA (TG ⟨rfl,p _ (TO q)⟩)⟩
     obtain⟨i,j,k⟩:=w _ b ⟨#[]⟩ true (o.snoc D) (fun t u=>by rw[Tu];have:=p t u;omega) (fun _=>by simp);exact⟨i,j,by simp at k ⊢;omega⟩
   ·split
    ·next y =>
     have E:=z y.2
     obtain⟨i,j,k⟩:=w P (b++[P.length-1]) f false o (fun t u=>by
      rcases Uf.1 u with h | h
      ·exact p t h
      ·rw[TH.1 h];omega) (fun h=>by cases h)
     exact⟨i,j,by simp at k ⊢;omega⟩
    ·split
     ·obtain⟨i,j,k⟩:=w _ b f false (o.snoc (s:=⟨-1,0,0,l.XY,l.XZ,l.X0⟩) ⟨by show 0<=10000;omega,TG rfl⟩) (fun t u=>by rw[Tu];have:=p t u;omega) (fun h=>by cases h);exact⟨i,j,by simp at k ⊢;omega⟩
     ·exact⟨n8.nil,fun h=>(by cases h),Ub _⟩
theorem PQ(o:a<=10000)(m:fn T)(c:Nat)(n:Nat):∀i b,(∀r∈b,G7 S a r)->n8 T S a (rU T S a c n i b).st/\((rU T S a c n i b).why=0->0<(rU T S a c n i b).st.length)/\(rU T S a c n i b).st.length<=1024*T.length:=by
 induction n with
 | zero=>intro i b _;rw[rU];exact⟨n8.nil,fun h=>(by cases h),Ub _⟩
 | succ n q =>
  intro i b l;rw[rU];split
  ·obtain⟨e,f,g⟩:=Oa (T:=T) o b l (EM (T.getD c gQ)) (eO T (i+1) c) [] [] ⟨#[]⟩ false n8.nil (fun t p=>by cases p) (fun h=>by cases h);have:=yH T m (i+1) c;rw[Up,Vq]at g;exact⟨e,f,by unfold j7;omega⟩
  ·split
   ·exact⟨n8.nil,fun h=>(by cases h),Ub _⟩
   ·split
    ·exact⟨n8.nil,fun h=>(by cases h),Ub _⟩
    ·next e f g =>
     obtain⟨k,j⟩:∃k:Nat,dX T S a (tS T i)=k:=⟨(dX T S a (tS T i)).toNat,by omega⟩
     refine q (i+1) _ (fun r d=>?_);rcases Uf.1 d with h | h
     ·exact l r h
     ·rw[TH.1 h,j,Uq];exact Az j
theorem sI(g:a<=10000)(i:fn T)(m:T.length<=10000)(e b:Nat)(n:b<=T.length):n8 T S a (fB T S a e b).st/\((fB T S a e b).why=0->0<(fB T S a e b).st.length)/\(fB T S a e b).st.length<=100000000:=by
 unfold fB;split
 ·unfold jR
  obtain⟨c,d,f⟩:=PQ (T:=T) (S:=S) g i b (b-(e+2)) (e+2) (a9 T S a) (fun r j=>by
   obtain⟨k,-,l⟩:=zW T S a r j;exact⟨k,by rw[l];simp⟩)
  exact⟨c,d,by omega⟩
 ·obtain⟨c,d,f⟩:=MG (T:=T) (S:=S) g b (b-(e+1)) (e+1) [] n8.nil;exact⟨c,d,by simp at f;omega⟩
theorem JE(n:a<=10000)(l:fn T)(m:T.length<=10000)(e b:Nat)(q:b<=T.length):LW T S a (fB T S a e b):=by
 obtain⟨g,s,t⟩:=sI (T:=T) (S:=S) n l m e b q;refine⟨t,fun i=>?_,fun h=>⟨s h,fun i c d=>⟨?_⟩⟩⟩
 ·by_cases c:i<(fB T S a e b).st.length
  ·have:=(g i c).nd;omega
  ·have:bN (fB T S a e b).st i=Sn:=(by unfold bN;rw[Tn,Um (by omega)];rfl);rw[this];show 0<=100000;omega
 ·rcases(g i c).XO with h | ⟨h,o⟩ | ⟨r,f,j,k⟩
  ·exact absurd h d
  ·exact TG ⟨h,o⟩
  ·refine TA ⟨r,f.1,j,f.2,fun p=>?_⟩;rw[k];unfold gM;rw[To (by omega),Uq,Tq p]
end
def zd(t:Tk):Prop:=t.s.size<=1024/\0<=t.X0/\t.X0<=10000
theorem Bi:fn []:=fun t a=>by cases a
theorem ng{M:List Tk}(h:fn y)(k:fn M):fn (y++M):=fun t a=>by
 rcases Uf.1 a with e | e
 ·exact h t e
 ·exact k t e
theorem md(h:zd z6):fn [z6]:=fun u a=>by rw[TH.1 a];exact h
theorem tW(r:Int)(h:zd z6):zd (rY z6 r):=⟨by show(0:Nat)<=1024;omega,h.2⟩
theorem Cc(s:Xs)(r:Int)(k:Nat)(a:s.size<=1024)(b:k<=1024):zd (m9 g L s r k):=by
 have:=Bd L k;exact⟨a,by show 0<=bJ L k;omega,by show bJ L k<=10000;omega⟩
theorem EH(a:fn b)(c:v<=l)(d:l<=1024):fn (jN g L v l b):=by
 unfold jN;split
 ·exact a
 ·exact ng a (md (Cc g L _ 0 v (by rw[VX];omega) (by omega)))
theorem EE(i:Nat)(b:i<=1024):fn (jM g L i):=by
 induction i with
 | zero=>exact Bi
 | succ i a =>
  rw[jM];split
  ·exact EH g L _ i _ (a (by omega)) (po L i) (by omega)
  ·exact a (by omega)
theorem LM(a:L.size<=1024):fn (iW g L):=by
 unfold iW;split
 ·next i h =>
  have b:i<L.size:=TF.1 (Ur h);exact ng (EE g L i (by omega)) (md (Cc g L _ 1 i (by show(0:Nat)<=1024;omega) (by omega)))
 ·exact ng (EH g L _ _ _ (EE g L _ a) (po L _) a) (md (Cc g L _ 0 _ (by show(0:Nat)<=1024;omega) a))
theorem xG(h:zd z6)(k:fn y):fn (z6 :: y):=fun u a=>by
 rcases Ua.1 a with e | e
 ·rw[e];exact h
 ·exact k u e
theorem Mn(b:Bool)(L:List Tk)(h:fn L):fn (bZ b L):=by
 induction L generalizing b with
 | nil=>cases b <;> exact Bi
 | cons t L c =>
  have d:zd t:=h t (Ud ..);have a:fn L:=fun u f=>h u (Uc _ f);have e:∀r,zd ⟨⟨#[]⟩,r,t.XY,t.XZ,t.X0⟩:=fun r=>⟨by show(0:Nat)<=1024;omega,d.2⟩
  cases b
  ·rw[bZ];split
   ·exact c true a
   ·exact xG d (c false a)
  ·rw[bZ];split
   ·exact xG d (c true a)
   ·split
    ·exact c false a
    ·split
     ·exact xG (e 3) (c true a)
     ·split
      ·exact md (e 2)
      ·exact c true a
theorem KI(f:∀k e c,fn c->fn (z3 k e c).1)(w:Fs)(n:Nat):∀L,L.length<=n->fn L->∀e c,fn c->fn (cZ z3 w L e c).1:=by
 induction n with
 | zero =>
  intro L m _ e c d;cases L with
  | nil=>rw[cZ];exact d
  | cons _ _=>simp at m
 | succ n q =>
  intro L m s e c d;cases L with
  | nil=>rw[cZ];exact d
  | cons t r =>
   have o:zd t:=s t (Ud ..);have l:fn r:=fun u p=>s u (Uc _ p);have g:r.length<=n:=(by simpa using m);rw[cZ.eq_def];simp only;split
   ·split
    ·exact d
    ·exact ng d (md (tW 7 o))
   ·split
    ·exact q r g l e _ (ng d (md o))
    ·split
     ·exact ng d (md (tW 4 o))
     ·cases r with
      | nil=>exact d
      | cons a r =>
       have v:zd a:=l a (Ud ..);cases r with
       | nil=>exact ng d (md (tW _ v))
       | cons b r =>
        have x:zd b:=l b (Uc _ (Ud ..));have j:fn r:=fun u p=>l u (Uc _ (Uc _ p));have i:r.length<=n:=(by simp at g;omega);simp only;split
        ·exact ng d (md (tW _ v))
        ·split
         ·exact ng d (md (tW _ x))
         ·split
          ·exact q r i j e c d
          ·split
           ·exact f _ e c d
           ·exact q r i j _ _ (f _ e c d)
theorem KN(b:∀k,(ak H k).size<=1024)(n:Nat):∀k d a,fn a->fn (eS H n k d a).1:=by
 induction n with
 | zero=>intro k d a c;exact c
 | succ n e =>
  intro k d a c;rw[eS];exact KI _ e H _ _ (Tp _) (Mn _ _ (LM _ _ (b k))) _ _ c
theorem C7(a:∀l,(ak H l).size<=1024):fn (cM H l).1:=by
 have h:fn (qo H l):=KN H a _ _ _ _ Bi;unfold cM;split
 ·exact fun t b=>h t (WH _ b)
 ·exact h
def zk(T:List Tk)(S:List Sm)(j:Nat):Nat:=(aq S j).h+(bB T (aq S j).h).length
theorem Sp(p:Xs->Bool)(L:Xt)(h:∃x∈L,p x=false):(L.takeWhile p).length<L.length/\p (L.getD (L.takeWhile p).length ⟨#[]⟩)=false/\∀q,q<(L.takeWhile p).length->p (L.getD q ⟨#[]⟩)=true:=by
 induction L with
 | nil=>obtain⟨x,f,-⟩:=h;cases f
 | cons a L j =>
  cases b:p a
  ·rw[List.takeWhile_cons,To (by rw[b];simp)];exact⟨by simp,b,fun q d=>by simp at d⟩
  ·rw[List.takeWhile_cons,Tq b]
   obtain⟨k,g,i⟩:=j (by
    obtain⟨x,f,c⟩:=h;rcases Ua.1 f with e | e
    ·rw[e,b]at c;cases c
    ·exact⟨x,e,c⟩)
   refine⟨by simp;omega,g,fun q d=>?_⟩;cases q with
   | zero=>exact b
   | succ q=>exact i q (by simpa using d)
theorem N9(P:tD y o w)(m:((aq o w).k.toList == [36,112])=true) :
  (aq o w).h<=zk y o w/\((tS y (zk y o w)).toList == [36,61])=true/\(∀q,(aq o w).h<=q->q<zk y o w->((tS y q).toList == [36,61])=false)/\zk y o w<(aq o w).z-1:=by
 have s:=P.zt;have r:=P.pos;have d:=P.le;have a:=P.cl;have n:=nG y (aq o w).h ((aq o w).z-1) d (by omega);have l:aK (eF y (aq o w).h ((aq o w).z-1)) ⟨#[36,61]⟩=true:=by
  unfold i9 at a;split at a
  ·cases a
  ·split at a
   ·cases a
   ·cases e:aK (eF y (aq o w).h ((aq o w).z-1)) ⟨#[36,61]⟩
    ·rw[m,e,Tq (by decide)]at a;cases a
    ·rfl
 obtain⟨i,p,j⟩:=Us.1 l;have c:∃x∈eF y (aq o w).h ((aq o w).z-1),jy x=false:=by
  refine⟨i,p,?_⟩;unfold jy;have e:i.toList=(⟨#[36,61]⟩:Xs).toList:=by simpa using j
  rw[e];decide +kernel
 obtain⟨f,b,g⟩:=Sp jy _ c;rw[<-uC P]at f b g;rw[n]at f;unfold zk;refine⟨by omega,?_,fun q t u=>?_,by omega⟩
 ·rw[tH y _ _ _ (by omega) (by omega)]at b;unfold jy at b;simpa using b
 ·have:=g (q-(aq o w).h) (by omega);rw[tH y _ _ _ (by omega) (by omega),show(aq o w).h+(q-(aq o w).h)=q by omega]at this;unfold jy at this;simpa using this
def DI(T:List Tk)(S:List Sm)(a:Nat):jO:=fB T S a (zk T S a) ((aq S a).z-1)
def Ao(T:List Tk)(S:List Sm)(a:Nat):ip:=lz T S a (DI T S a) (T.getD ((aq S a).z-1) gQ)
theorem Cx.keptS(h:Cx n p w o)(c:ae z7 n k)(m:∀g,p=some ⟨g,0,none⟩->g∉z7):Cx k p w o:=by
 refine⟨h.1,fun j t r=>?_⟩;obtain⟨g,e,b,d,f,i,l⟩:=h.2 j t r;have q:∀a,k.cell? ⟨g,a,none⟩=n.cell? ⟨g,a,none⟩:=fun a=>TN (c.block g b (m g e));exact⟨g,e,Tv b c.size,by rw[q];exact d,by rw[q];exact f,by rw[q];exact i,by rw[q];exact l⟩
theorem gx.off{A:Xu}(h:gx n w y p u o y0 t)(v:n.heap[x]?=some (.cells #[slice A y5 y6,I,M,N,z5] 85))(l:ae [x] n k):gx k w y p u o y0 t:=by
 obtain⟨z,-⟩:=oc v;refine⟨l.get h.d (fun r=>?_),?_,?_⟩
 ·simp at r;subst r;have:=h.d.symm.trans v;simp at this
 ·cases q:y with
  | nil=>rw[q]at h;exact⟨h.t.1,fun j c i=>by simp at i⟩
  | cons c L =>
   rw[q]at h;refine h.t.keptS l (fun g e b=>?_);simp at b;subst b;obtain⟨g,f,-,a,-⟩:=h.t.2 0 c rfl;rw[f]at e;cases e;rw[Xm]at a;rw[z]at a;cases a
 ·cases m:o with
  | nil=>rw[m]at h;exact⟨h.s.1,fun j c i=>by simp at i⟩
  | cons c L =>
   rw[m]at h;refine h.s.keptS l (fun g e b=>?_);simp at b;subst b;obtain⟨g,f,-,a,-⟩:=h.s.2 0 c rfl;rw[f]at e;cases e;rw[Xm]at a;rw[z]at a;cases a
theorem Fu(g:Xu)(y:Nat)(f:Xu)(x:Nat)(E:Xu)(n c:Nat)(D G H:Value)(w:World)(F:w.heap[v]?=some (.cells #[slice E n c,D,pointer (some ⟨l,0,none⟩),G,H] 85))(N:gx w l b g y (aa b) f x)(t:b.length<=10000)(A:fn b)(d:∀q,q<b.length->aY b (aa b) q=0) :
  Calls prog 58 #[pointer (some ⟨v,0,none⟩)] w fun e V=>LT b (aa b) v l (slice E n c) D (DI b (aa b)) (Ao b (aa b)) w e V:=by
 have p:=dN b;have W:(aa b).length<=b.length:=pJ b b.length;have s:∀m,ae [v] w m->gx m l b g y (aa b) f x:=fun m k=>N.off F k;have j:∀a,mx (aa b) a=true->cd (aq (aa b) a).k=false:=fun a h=>fN h (by decide);refine Ft v l b g y (aa b) f x _ D G H _ _ w F s (by omega) (OD b t d _ (Tp _)).ok.a ?_ ?_ ?_
 ·intro a o u m C;have P:=lx p d a o (j a u);obtain⟨I,J,K,L⟩:=N9 P u;have:=P.pos;have:=P.zt;exact Fa l a (zk b (aa b) a) ((aq (aa b) a).z-1) b g y _ f x m (s m C) (OD b t d a (by omega)) o (vE P) A I J K (by omega) L (by omega) P.dot
 ·intro a o u B m C R;have P:=lx p d a o (j a u);have:=P.pos;have:=P.zt;exact Ci l a ((aq (aa b) a).z-1) b g y _ f x (DI b (aa b) a) B m (s m C) (OD b t d a (by omega)) (QD p d a (by omega)) (So p d a (by omega)) o (vE P) ((OD b t d _ (Tp _)).ok.a a o) (by omega) (by omega) R (JE (by omega) A t _ _ (by omega))
 ·intro a o u;have P:=lx p d a o (j a u);have:=P.zt;obtain⟨T,-,U⟩:=sI (T:=b) (S:=aa b) (a:=a) (by omega) A t (zk b (aa b) a) ((aq (aa b) a).z-1) (by omega);refine⟨U,fun i O=>?_⟩
  show(bN (fB b (aa b) a (zk b (aa b) a) ((aq (aa b) a).z-1)).st i).ref<=(a:Int)
  rcases(T i O).XO with h | ⟨h,-⟩ | ⟨r,Q,M,-⟩
  ·rw[h];omega
  ·rw[h];omega
  ·rw[M];have:=Q.1;omega
theorem Ga(j:∀k d c,d[k]?=some false->(z3 k d c).1.length+2000*aV (z3 k d c).2<=c.length+2000*aV d)(f:Fs)(n:Nat):∀L,L.length<=n->∀d c,(cZ z3 f L d c).1.length+2000*aV (cZ z3 f L d c).2<=c.length+L.length+2000*aV d:=by
 induction n with
 | zero =>
  intro L m d c;cases L with
  | nil=>rw[cZ];simp
  | cons _ _=>simp at m
 | succ n p =>
  intro L m d c;cases L with
  | nil=>rw[cZ];simp
  | cons t r =>
   have g:r.length<=n:=(by simpa using m);rw[cZ.eq_def];simp only[List.length_cons];split
   ·split
    ·simp only;omega
    ·simp only[List.length_append,List.length_cons,List.length_nil];omega
   ·split
    ·have:=p r g d (c++[t]);rw[Tu,Ui,Up]at this;omega
    ·split
     ·simp only[List.length_append,List.length_cons,List.length_nil];omega
     ·cases r with
      | nil=>simp only;omega
      | cons a r =>
       cases r with
       | nil=>simp only[List.length_append,List.length_cons,List.length_nil];omega
       | cons b r =>
        have i:r.length<=n:=(by simp at g;omega);simp only[List.length_cons];split
        ·simp only[List.length_append,List.length_cons,List.length_nil];omega
        ·split
         ·simp only[List.length_append,List.length_cons,List.length_nil];omega
         ·split
          ·have:=p r i d c;omega
          ·next l =>
           have o:d[(bS f a.s).toNat]?=some false:=by
            rw[Tn]at l;cases e:d[(bS f a.s).toNat]? with
            | none=>rw[e]at l;exact absurd rfl l
            | some x=>rw[e]at l;cases x;rfl;exact absurd rfl l
           have q:=j (bS f a.s).toNat d c o;split
           ·omega
           ·have:=p r i (z3 (bS f a.s).toNat d c).2 (z3 (bS f a.s).toNat d c).1;omega
theorem Gc(c:∀k,(ak H k).size<=1024)(n:Nat):∀k b a,b[k]?=some false->(eS H n k b a).1.length+2000*aV (eS H n k b a).2<=a.length+2000*aV b:=by
 induction n with
 | zero=>intro k b a _;rw[eS];simp
 | succ n e =>
  intro k b a d;rw[eS];have f:=Ga (eS H n) e H _ (ss H k) (Tp _) (b.set k true) a;have g:=Et H k;have i:=l6 b k d;have j:=c k;omega
theorem JK(c:H.length<=4)(a:∀l,(ak H l).size<=1024)(d:l<H.length):(cM H l).1.length<=10000:=by
 have h:=Gc H a H.length l (List.replicate H.length false) [] (by rw[UO,Tq d]);rw[nX]at h;have b:(qo H l).length<=10000:=by unfold qo;simp at h;omega
 unfold cM;split
 ·rw[Vj];omega
 ·exact b
structure EU(w:World)(v:Nat)(fs:Fs)(h:Hd)(T:List Tk)(lo hi b:Nat)(aT:Xu)(cT:Nat)(aS:Xu)(cS:Nat)(PS:List (jO×Hd))(h1:Hd)(RS:List ip)(h2:Hd):Prop where
 rv:gB w v fs h true (pointer (some ⟨b,0,none⟩)) (slice h1.ao PS.length h1.cap) (slice h2.ao RS.length h2.cap)
 db:gx w b T aT cT (aa T) aS cS
 ps:PS.map (·.1)=(List.range (aa T).length).map (nN (aa T) (DI T (aa T)))
 XX:oI (aa T) PS ((List.range (aa T).length).map (mI T (aa T) (Ao T (aa T)))) RS (aa T).length
 s1:aB w h1 (gN PS)
 s2:aB w h2 (gF RS)
 sq:∀x∈PS,dh w x.2.ao 6 lH x.1.st
 nb:lo<=b/\b<hi
 nT:∀g,aT=some ⟨g,0,none⟩->lo<=g/\g<hi
 nS:∀g,aS=some ⟨g,0,none⟩->lo<=g/\g<hi
 n1:∀g,h1.XR=some g->lo<=g/\g<hi
 n2:∀g,h2.XR=some g->lo<=g/\g<hi
 nq:∀x∈PS,∀g,x.2.ao=some ⟨g,0,none⟩->lo<=g/\g<hi
def zg(w:World)(v:Nat)(fs:Fs)(h:Hd)(T:List Tk)(lo hi:Nat):Prop:=∃b aT cT aS cS PS h1 RS h2,EU w v fs h T lo hi b aT cT aS cS PS h1 RS h2
theorem zg.XQ(a:zg n w d D y x u)(c:ae z7 n k)(C:w∉z7)(A:∀q,D.XR=some q->q∉z7)(B:∀q,x<=q->q<u->q∉z7):zg k w d D y x u:=by
 obtain⟨b,o,r,m,p,j,v,l,z,a⟩:=a;have q:∀g,x<=g/\g<u->g∉z7:=fun g f=>B g f.1 f.2
 exact⟨b,o,r,m,p,j,v,l,z,{ a with
  rv:=a.rv.keptS c C A
  db:=⟨c.get a.db.d (q b a.nb),a.db.t.keptS c (fun g e=>q g (a.nT g e)),a.db.s.keptS c (fun g e=>q g (a.nS g e))⟩
  s1:=a.s1.XI (fun g e=>c.block g (a.s1.lt e) (q g (a.n1 g e)))
  s2:=a.s2.XI (fun g e=>c.block g (a.s2.lt e) (q g (a.n2 g e)))
  sq:=fun f i=>(a.sq f i).keptS c (fun g e=>q g (a.nq f i g e)) }⟩
theorem zg.rvAt(a:zg n w d D y x u):∃c e f,gB n w d D true c e f:=by
 obtain⟨b,k,m,j,l,g,o,i,p,a⟩:=a;exact⟨_,_,_,a.rv⟩
theorem NS{X:World}{f:List (jO×Hd)}{m:List ip}{j:Hd}(a:wZ n k w x I M f c m j)(i:gx k x y p y5 (aa y) y0 y6)(G:gB X w d D true (pointer (some ⟨x,0,none⟩)) (slice c.ao f.length c.cap) (slice j.ao m.length j.cap))(K:ae [w,u] k X)(N:w<t)(J:u<t)(r:t<=n.heap.size)(v:t<=x)(o:∀g,p=some ⟨g,0,none⟩->t<=g/\g<k.heap.size)(nS:∀g,y0=some ⟨g,0,none⟩->t<=g/\g<k.heap.size)(F:f.map (·.1)=(List.range (aa y).length).map (nN (aa y) (DI y (aa y))))(A:oI (aa y) f ((List.range (aa y).length).map (mI y (aa y) (Ao y (aa y)))) m (aa y).length):zg X w d D y t X.heap.size:=by
 have z:=K.size;have q:∀g,t<=g->g∉[w,u]:=fun g L H=>by simp at H;omega
 have B:∀g,c.XR=some g->t<=g/\g<X.heap.size:=fun g e=>⟨TE r (a.f1 g e),Tv (a.o1.lt e) z⟩
 have C:∀g,j.XR=some g->t<=g/\g<X.heap.size:=fun g e=>⟨TE r (a.f2 g e),Tv (a.o2.lt e) z⟩
 have E:∀b∈f,∀g,b.2.ao=some ⟨g,0,none⟩->t<=g/\g<X.heap.size:=fun b l g e=>⟨TE r ((a.q b l).2 g e).1,Tv (a.ql b l g e) z⟩
 exact⟨x,p,y5,y0,y6,f,c,m,j,{
  rv:=G
  db:=⟨K.get i.d (q x v),i.t.keptS K (fun g e=>q g (o g e).1),i.s.keptS K (fun g e=>q g (nS g e).1)⟩
  ps:=F
  XX:=A
  s1:=a.o1.XI (fun g e=>K.block g (a.o1.lt e) (q g (B g e).1))
  s2:=a.o2.XI (fun g e=>K.block g (a.o2.lt e) (q g (C g e).1))
  sq:=fun b l=>(a.q b l).1.keptS K (fun g e=>q g (E b l g e).1)
  nb:=⟨v,Tv (aj i.d) z⟩
  nT:=fun g e=>⟨(o g e).1,Tv (o g e).2 z⟩
  nS:=fun g e=>⟨(nS g e).1,Tv (nS g e).2 z⟩
  n1:=B
  n2:=C
  nq:=E }⟩
def SE(fs:Fs)(k v:Nat)(h:Hd)(f:pt)(c:Int)(w:World)(e:Ending)(w':World):Prop :=
 e=returned (tuple #[iu f,int i64 c])/\((c=0->∃lo,w.heap.size<=lo/\zg w' v fs h (cM fs k).1 lo w'.heap.size)/\(c≠0->∃p2 p3 p4,gB w' v fs h false p2 p3 p4))/\ae [v] w w'
theorem gB.keptV{on':Bool}(a:gB n w d D z2 I M N)(f:ae [w] n k)(c:k.heap[w]?=some (.cells #[slice D.ao d.length D.cap,bool on',z5,y7,y9] 85)):gB k w d D on' z5 y7 y9 :=
 ⟨c,a.X6.XI (fun q b=>f.block q (a.X6.lt b) (by simp;intro e;rw[e]at b;exact a.far b)),a.far,a.le⟩
theorem tU(h:∀j,j<d.length->(ak d j).size<=1024)(k:Nat):(ak d k).size<=1024:=by
 by_cases a:k<d.length
 ·exact h k a
 ·unfold ak;rw[Tn,Um (by omega)];show(0:Nat)<=1024;omega
theorem gB.XM(a:gB n w d D z2 I M N)(c:w≠x)(b:∀q,D.XR=some q->q≠x)(i:Nat)(u:Value):gB (n.setCell ⟨x,i,none⟩ u) w d D z2 I M N :=
 ⟨((ae.refl [x] n).sl1 _).get a.d (by simp;exact c),a.X6.XM b i u,a.far,a.le⟩
theorem wJ{c u0 u1 u2 u3:Value}(e:k.heap[w]?=some (.cells #[z5,y7,y9,c] 87))(g:gB k x d D z2 I M N)(l:x<w)(i:∀q,D.XR=some q->q<w)(f:ae [x] n k)(b:n.heap.size<=w) :
  ((((k.setCell ⟨w,0,none⟩ u0).setCell ⟨w,1,none⟩ u1).setCell ⟨w,2,none⟩ u2).setCell ⟨w,3,none⟩ u3).heap[w]?=some (.cells #[u0,u1,u2,u3] 87)/\gB ((((k.setCell ⟨w,0,none⟩ u0).setCell ⟨w,1,none⟩ u1).setCell ⟨w,2,none⟩ u2).setCell ⟨w,3,none⟩ u3) x d D z2 I M N/\ae [x] n ((((k.setCell ⟨w,0,none⟩ u0).setCell ⟨w,1,none⟩ u1).setCell ⟨w,2,none⟩ u2).setCell ⟨w,3,none⟩ u3):=by
 refine⟨ab (ab (ab (ab e 0 u0) 1 u1) 2 u2) 3 u3,?_,(((f.setCell (TA b) _).setCell (TA b) _).setCell (TA b) _).setCell (TA b) _⟩;have a:∀q,D.XR=some q->q≠w:=fun q j=>by have:=i q j;omega
 exact(((g.XM (by omega) a _ _).XM (by omega) a _ _).XM (by omega) a _ _).XM (by omega) a _ _
theorem nH(h:n.heap[w]?=some (.cells #[I,M,N,z5] 87)) :
  (n.cell? ⟨w,0,none⟩=some I/\n.cell? ⟨w,1,none⟩=some M/\n.cell? ⟨w,2,none⟩=some N/\n.cell? ⟨w,3,none⟩=some z5)/\(n.frozen? ⟨w,0,none⟩=false/\n.frozen? ⟨w,1,none⟩=false/\n.frozen? ⟨w,2,none⟩=false/\n.frozen? ⟨w,3,none⟩=false)/\w<n.heap.size:=by
 refine⟨⟨?_,?_,?_,?_⟩,⟨am h 0,am h 1,am h 2,am h 3⟩,aj h⟩
 all_goals (rw[ah h];rfl)
theorem xy(c:H.length<=4)(d:∀j,j<H.length->(ak H j).size<=1024)(m:l<H.length)(f:((zN (cM H l).1 (aa (cM H l).1)).X3==0)=true)(b:((cM H l).2.X3==0)=true):gi H l=cY/\∀q,q<(cM H l).1.length->aY (cM H l).1 (aa (cM H l).1) q=0:=by
 obtain⟨e,g⟩:=xx H l c d m;have n:(gi H l).1=0:=by
  unfold gi;rw[To (by rw[f];simp)];exact Wg b
 refine⟨?_,(g (by rw[e,n];rfl)).1.u⟩;have k:(cM H l).2=gQ:=by
  unfold cM at b ⊢;split
  ·next a =>
   rw[Tq a]at b;unfold fj at a;cases i:(qo H l).getLast? with
   | none=>rw[i]at a;cases a
   | some t =>
    rw[i]at a b;simp only[Option.getD_some]at b;simp only at a;rw[b]at a;cases a
  ·rfl
 unfold gi;rw[To (by rw[f];simp),k];rfl
set_option maxRecDepth 100000
theorem zA(h:Hd)(u:Bool)(v x y:Value)(n:Xs)(w:World)(f:gB w z0 H h u v x y)(J:bS H n<0) :
  Calls prog 38 #[pointer (some ⟨z0,0,none⟩),string n] w fun e z=>e=returned (tuple #[iu cY,int i64 5])/\ae [] w z:=by
 obtain⟨W,j⟩:=bn (w.alloc (.cells #[int i64 0,string ⟨#[]⟩,int i64 0,int i64 0] 87));have a:Xr _:=fH j.o;have k:Xr _:=f8 j.o;have b:Xr _:=f.XD a.o;have i:Xr _:=(nu H h.ao h.cap n W (by have:=f.le;omega) b.o.X6.srcFi);have K:W.cell? ⟨z0,0,none⟩=some (slice h.ao H.length h.cap):=by rw[ah b.o.d];rfl
 obtain⟨⟨E,F,G,I⟩,⟨A,B,C,D⟩,M⟩:=nH k.o;have c:Xr (z0<w.heap.size/\∀q,h.XR=some q->q<w.heap.size):=⟨aj f.d,fun q t=>f.X6.lt t⟩;clear f;go_enter func38,ntmps38;go_upto_region 1 with fail
 rw[j.o];go_wp2_with (go_at_call 36;refine Tr i.o ?_;rintro e L ⟨rfl,g⟩;rw[g];clear g);obtain⟨l,-,-⟩:=wJ (u0:=int i64 0) (u1:=string ⟨#[]⟩) (u2:=int i64 0) (u3:=int i64 0) k.o b.o c.o.1 c.o.2 (pF a.o) (Tp _);obtain⟨⟨m,p,r,s⟩,-,-⟩:=nH l;exact Ty (v:=tuple #[agg #[int i64 0,string ⟨#[]⟩,int i64 0,int i64 0],int i64 5]) (by simp[results,results38,go_sem,m,p,r,s]) rfl ⟨rfl,(((a.o.sr1 (Tp _) _).sr1 (Tp _) _).sr1 (Tp _) _).sr1 (Tp _) _⟩
theorem Cl(a:Fs)(h:Hd)(on:Bool)(p2 p3 p4:Value)(n:Xs)(w:World)(hR:gB w v a h on p2 p3 p4)(hf:bS a n=(l:Int))(hk:l<a.length)(Z:∀j,j<a.length->(ak a j).size<=1024) :
  Calls prog 38 #[pointer (some ⟨v,0,none⟩),string n] w fun e w'=>SE a l v h (gi a l) (if((gi a l).1==0)=true then 0 else 6) w e w':=by
 unfold SE;have ax:=hR.le;obtain⟨cb,k⟩:=h;obtain⟨gf,av,cf,-⟩:=hR.X6.srcFi.2 l hk;replace av:cb=some ⟨gf,0,none⟩:=av;subst av;obtain⟨W,HW⟩:=bn (w.alloc (.cells #[int i64 0,string ⟨#[]⟩,int i64 0,int i64 0] 87));have ba:Xr _:=fH HW.o;have BF:Xr _:=f8 HW.o;have C:Xr _:=hR.XD ba.o;have a6:Xr _:=(nu a (some ⟨gf,0,none⟩) k n W (by omega) C.o.X6.srcFi);rw[hf]at a6;have v0:W.cell? ⟨v,0,none⟩=some (slice (some ⟨gf,0,none⟩) a.length k):=by rw[ah C.o.d];rfl
 have v1:W.cell? ⟨v,1,none⟩=some (bool on):=by rw[ah C.o.d];rfl
 have e1:=am C.o.d 1;have c:Xr (v<w.heap.size/\∀q,(⟨some ⟨gf,0,none⟩,k⟩:Hd).XR=some q->q<w.heap.size):=⟨aj hR.d,fun q hq=>hR.X6.lt hq⟩;obtain⟨L,Q⟩:=bn (W.setCell ⟨v,1,none⟩ (bool false));have O:Xr (gB L v a ⟨some ⟨gf,0,none⟩,k⟩ false p2 p3 p4):=by show gB _ _ _ _ _ _ _ _;rw[<-Q.o];exact C.o.off
 have an:Xr (ae [v] w L):=by show ae _ _ _;rw[<-Q.o];exact(pF ba.o).sl1 _
 have az:Xr (L.heap[w.heap.size]?=some (.cells #[int i64 0,string ⟨#[]⟩,int i64 0,int i64 0] 87)):=by
  show _=_;rw[<-Q.o];exact((ae.refl [v] _).sl1 _).get BF.o (by have:=c.o.1;simp;omega)
 have N:Xr _:=JL a gf k l L ax (tU Z) hk O.o.X6.srcFi (O.o.X6.lt rfl);have ch:L.cell? ⟨v,0,none⟩=some (slice (some ⟨gf,0,none⟩) a.length k):=by rw[ah O.o.d];rfl
 have P:Xr _:=C7 a l (tU Z);have z:Xr _:=JK a l ax (tU Z) hk;have A:Xr _:=xy a l ax Z hk;have y:Xr (gi a l=if((zN (cM a l).1 (aa (cM a l).1)).X3==0)=false then MQ (zN (cM a l).1 (aa (cM a l).1)) else MQ (cM a l).2):=rfl;obtain⟨f,Hf⟩:=bn (gi a l);rw[Hf.o]at y A ⊢;obtain⟨cc,S⟩:=bn ((if(f.1==0)=true then(0:Int) else 6));rw[S.o];obtain⟨⟨T,t⟩,b5⟩:∃Tt,Xr (cM a l=Tt):=⟨_,rfl⟩
 rw[b5.o]at N P z A y ⊢;simp only at N P z A y ⊢;obtain⟨u,Hu⟩:=bn (zN T (aa T));rw[Hu.o]at A y;have bj:Xr (∀i,(tS T i).size<=1073741824):=fun i=>by
  unfold tS;rw[Tn];cases e:T[i]? with
  | none=>show(0:Nat)<=_;omega
  | some t=>have:=(P.o t (UZ e)).1;show t.s.size<=_;omega
 clear hR cf hf;go_enter func38,ntmps38;go_upto_region 1 with fail
 rw[HW.o];go_upto_region 5 with (go_at_call 36;refine Tr a6.o ?_;rintro e w9 ⟨rfl,bl⟩;rw[bl];clear bl)
 rw[Q.o];clear v0 v1 e1;obtain⟨ts,tr,tf,tl,tc⟩:=t;obtain⟨us,ur,uf,ul,uc⟩:=u;simp only at N;go_upto_region 6 with (go_at_call 55;refine Tr N.o ?_;rintro e w7 ⟨aT,cT,rfl,sT,k7,n7⟩)
 obtain⟨X,G⟩:=bn (w7.alloc (.cells #[int i64 tr,string tf,int i64 tl,int i64 tc] 87));have a7:Xr (ae [] L X):=by show ae _ _ _;rw[<-G.o];exact k7.alloc _
 have br:Xr _:=f8 G.o;have R:Xr (w7.heap.size<=X.heap.size/\L.heap.size<=X.heap.size):=⟨by rw[<-G.o];simp,a7.o.size⟩;have bc:Xr _:=n7;have b4:Xr _:=(No T aT cT X (lP.XD sT (by rw[<-G.o];exact kr0.alloc _)) (by have:=z.o;omega) bj.o);rw[G.o];clear sT k7 ch n7;go_upto_region 7 with (go_at_call 56;refine Tr b4.o ?_;rintro e w9 ⟨rfl,aS,cS,d9,k9,n9⟩)
 have al:Xr _:=(xE X.heap.size T aT cT (aa T) aS cS w9 d9 (by have:=z.o;omega) (QF T (by have:=z.o;omega)) bj.o);rw[Hu.o]at al;simp only at al;have be:Xr (∀g,aT=some ⟨g,0,none⟩->L.heap.size<=g/\g<w9.heap.size):=fun g J=>⟨(bc.o g J).1,Tv (bc.o g J).2 (TE R.o.1 k9.size)⟩
 have bd:Xr (∀g,aS=some ⟨g,0,none⟩->L.heap.size<=g/\g<w9.heap.size):=fun g J=>⟨TE R.o.2 (n9 g J).1,(n9 g J).2⟩
 have b1:Xr _:=a7.o.trans k9;have bs:Xr _:=(k9.get br.o (by simp));have b6:Xr _:=k9.size;have bw:Xr _:=d9;clear d9 k9 n9;go_upto_region 8 with (go_at_call 57;refine Tr al.o ?_;rintro e cj ⟨rfl,bp⟩)
 obtain⟨U,D⟩:=bn (cj.alloc (.cells #[int i64 ur,string uf,int i64 ul,int i64 uc] 87));have a1:Xr _:=f8 D.o;have x:Xr (ae [] w9 U):=by show ae _ _ _;rw[<-D.o];exact bp.alloc _
 have B:Xr _:=b1.o.trans x.o;have a4:Xr _:=gx.XD bw.o x.o;have bv:Xr _:=(x.o.get bs.o (by simp));have b:Xr _:=O.o.XD B.o;have M:Xr _:=(B.o.get az.o (by simp));have ao:Xr _:=an.o.trans (pF B.o);rw[D.o];clear bp;obtain⟨⟨u0,u1,u2,u3⟩,-,uz⟩:=nH a1.o;obtain⟨⟨t0,t1,t2,t3⟩,-,tz⟩:=nH bv.o;obtain⟨⟨g0,g1,g2,g3⟩,⟨f0,f1,f2,f3⟩,wz⟩:=nH M.o;cases hu:(ur==0)
 ·have HX:Xr (f=(ur,⟨uf,ul,uc⟩)):=by show _=_;rw[y.o];exact Tq hu
  have HC:Xr (cc=6):=cg (by rw[<-S.o,HX.o];exact To (fun q=>by have q':(ur==0)=true:=q;rw[hu]at q';cases q'));go_wp2;obtain⟨B1,R1,K1⟩:=wJ (u0:=int i64 ur) (u1:=string uf) (u2:=int i64 ul) (u3:=int i64 uc) M.o b.o c.o.1 c.o.2 ao.o (Tp _);obtain⟨⟨c0,c1,c2,c3⟩,-,-⟩:=nH B1;exact Ty (v:=tuple #[agg #[int i64 ur,string uf,int i64 ul,int i64 uc],int i64 6]) (by simp[results,results38,go_sem,c0,c1,c2,c3]) rfl (by rw[HC.o,HX.o];exact⟨rfl,⟨(fun q=>by cases q),fun _=>⟨_,_,_,R1⟩⟩,K1⟩)
 ·cases ht:(tr==0)
  ·have HX:Xr (f=(tr,⟨tf,tl,tc⟩)):=(by show _=_;rw[y.o];exact To (fun q=>by have q':(ur==0)=false:=q;rw[hu]at q';cases q'));have HC:Xr (cc=6):=cg (by rw[<-S.o,HX.o];exact To (fun q=>by have q':(tr==0)=true:=q;rw[ht]at q';cases q'));go_wp2;obtain⟨B1,R1,K1⟩:=wJ (u0:=int i64 tr) (u1:=string tf) (u2:=int i64 tl) (u3:=int i64 tc) M.o b.o c.o.1 c.o.2 ao.o (Tp _);obtain⟨⟨c0,c1,c2,c3⟩,-,-⟩:=nH B1;exact Ty (v:=tuple #[agg #[int i64 tr,string tf,int i64 tl,int i64 tc],int i64 6]) (by simp[results,results38,go_sem,c0,c1,c2,c3]) rfl (by rw[HC.o,HX.o];exact⟨rfl,⟨(fun q=>by cases q),fun _=>⟨_,_,_,R1⟩⟩,K1⟩)
  ·obtain⟨bk,ag⟩:=A.o hu ht;have a0:Xr _:=ag;have HX:Xr _:=bk;have HC:Xr (cc=0):=cg (by rw[<-S.o,HX.o];rfl);clear bk ag;have x2:U.cell? ⟨v,2,none⟩=some p2:=(by rw[ah b.o.d];rfl);have y2:=am b.o.d 2;have Y:=ab b.o.d 2 (pointer (some ⟨X.heap.size,0,none⟩));obtain⟨V,E⟩:=bn (U.setCell ⟨v,2,none⟩ (pointer (some ⟨X.heap.size,0,none⟩)));rw[E.o]at Y;have m:Xr (ae [v] U V):=(by show ae _ _ _;rw[<-E.o];exact(ae.refl [v] _).sl1 _);have ad:Xr _:=gx.off a4.o b.o.d m.o;have a2:Xr _:=(m.o.get M.o (by have:=c.o.1;simp;omega));have af:Xr _:=gB.keptV (on':=false) b.o m.o Y;have bz:Xr _:=Fu v X.heap.size T aT cT aS cS _ _ _ _ _ _ V Y ad.o z.o P.o a0.o;clear Y;(go_upto_region 13 with fail);rw[E.o];clear x2 y2 u0 u1 u2 u3 uz t0 t1 t2 t3 tz g0 g1 g2 g3 f0 f1 f2 f3 wz;(go_upto_region 14 with (go_at_call 58;refine Tr bz.o ?_;rintro e K ⟨PS,j1,j2,RS,rfl,bo,ai,jw⟩));have a3:Xr _:=(jw.XQ.get a2.o (by have:=c.o.1;simp;omega));have I:=jw.d;have H:=jw.XQ;have bf:Xr _:=gB.keptV (on':=false) af.o H I;have b2:Xr _:=(ao.o.trans m.o).trans H;have b0:Xr _:=jw;have bT:Xr _:=bo;have bx:Xr _:=ai;have a5:Xr _:=gx.off ad.o af.o.d H;have ap:Xr (w9.heap.size<=V.heap.size/\V.heap.size<=K.heap.size/\X.heap.size<=w9.heap.size):=⟨TE x.o.size m.o.size,H.size,b6.o⟩;have x1:K.cell? ⟨v,1,none⟩=some (bool false):=(by rw[ah I];rfl);have y1:=am I 1;have ar:=ab I 1 (bool true);obtain⟨ca,F⟩:=bn (K.setCell ⟨v,1,none⟩ (bool true));rw[F.o]at ar;have r:Xr (ae [v] K ca):=(by show ae _ _ _;rw[<-F.o];exact(ae.refl [v] _).sl1 _);have bg:Xr _:=gB.keptV (on':=true) bf.o r.o ar;have ac:Xr _:=(r.o.get a3.o (by have:=c.o.1;simp;omega));have b3:Xr _:=b2.o.trans r.o;clear jw bo ai I H ar;(go_upto_region 15 with fail);rw[F.o];clear x1 y1;obtain⟨⟨g0,g1,g2,g3⟩,⟨f0,f1,f2,f3⟩,wz⟩:=nH ac.o;go_wp2;obtain⟨B1,R1,K1⟩:=wJ (u0:=int i64 0) (u1:=string ⟨#[]⟩) (u2:=int i64 0) (u3:=int i64 0) ac.o bg.o c.o.1 c.o.2 b3.o (Tp _);have KX:ae [v,w.heap.size] K _:=((((r.o.mono (S':=[v,w.heap.size]) (fun q hq _=>by rw[TH.1 hq];exact Ud)).setCell (p:=⟨w.heap.size,0,none⟩) (TG (by simp)) (int i64 0)).setCell (p:=⟨w.heap.size,1,none⟩) (TG (by simp)) (string ⟨#[]⟩)).setCell (p:=⟨w.heap.size,2,none⟩) (TG (by simp)) (int i64 0)).setCell (p:=⟨w.heap.size,3,none⟩) (TG (by simp)) (int i64 0);obtain⟨⟨c0,c1,c2,c3⟩,-,-⟩:=nH B1;exact Ty (v:=tuple #[agg #[int i64 0,string ⟨#[]⟩,int i64 0,int i64 0],int i64 0]) (by simp[results,results38,go_sem,c0,c1,c2,c3]) rfl (by rw[HC.o,HX.o];exact⟨rfl,⟨fun _=>⟨L.heap.size,an.o.size,NS b0.o a5.o R1 KX (Tv c.o.1 an.o.size) (aj az.o) (by have:=R.o;have:=ap.o;omega) R.o.2 (fun g J=>⟨(be.o g J).1,by have:=(be.o g J).2;have:=ap.o;omega⟩) (fun g J=>⟨(bd.o g J).1,by have:=(bd.o g J).2;have:=ap.o;omega⟩) bT.o bx.o⟩,fun q=>absurd rfl q⟩,K1⟩)
theorem Ff(h:l<v):aG (H.take v) l=aG H l/\ak (H.take v) l=ak H l:=by
 unfold aG ak;rw[Tn,VW,Tq h,Tn];exact⟨rfl,rfl⟩
theorem ob.take(h:ob n p w d)(k:Nat)(f:k<=d.length):ob n p w (d.take k):=by
 have b:(d.take k).length=k:=by rw[UI];omega
 refine⟨by rw[b];exact TE f h.1,fun j a=>?_⟩;rw[b]at a;obtain⟨c,e⟩:=Ff d k j a;rw[c,e];exact h.2 j (by omega)
theorem MM(h:ob n (some ⟨w,0,none⟩) x d)(j:Nat)(u:Value)(a:(rS d)[j]?=some u):n.cell? ⟨w,j,none⟩=some u:=by
 have k:j<d.length*2:=by
  rw[<-wI];exact(Tz.1 a).1
 obtain⟨i,e,-,b,c⟩:=h.2 (j / 2) (by omega);cases e
 obtain⟨f,g⟩:=xA d (j / 2) (by omega);rcases WT j with e | e
 ·rw[show j / 2*2=j by omega]at b f;rw[f]at a;rw[b,<-a]
 ·rw[show j / 2*2+1=j by omega]at c g;rw[g]at a;rw[c,<-a]
def RI(w:World)(v:Nat)(h:Hd)(fs:Fs)(p2 p3 p4:Value)(r:Int)(w':World):Prop:=(r=0->∃h',gB w' v fs h' false p2 p3 p4/\ae (v :: h.XR.toList) w w'/\∀b,h'.XR=some b->h.XR=some b∨w.heap.size<=b)/\(r≠0->ae [] w w')
theorem RI.stay{r:Int}(a:r≠0)(b:ae [] n k):RI n w D d I M N r k:=⟨fun e=>absurd e a,fun _=>b⟩
theorem gB.newRow{b:Fs}(a:gB n w d D z2 I M N)(p:ae [] n k)(o:aB k c (cW b))(j:∀q,c.XR=some q->n.heap.size<=q)(l:b.length<=4)(m:x=b.length):gB (k.setCell ⟨w,0,none⟩ (slice c.ao x c.cap)) w b c z2 I M N:=by
 have i:=p.get a.d (by simp);have t:=aj a.d;have f:c.XR≠some w:=fun s=>by have:=j w s;omega
 have r:ae [w] k (k.setCell ⟨w,0,none⟩ (slice c.ao x c.cap)):=(ae.refl _ _).sl1 _;subst m;exact⟨by rw[ab i];rfl,o.XI (fun q g=>r.block q (o.lt g) (by simp;intro e;exact f (by rw[<-e];exact g))),f,l⟩
theorem FB(a:Fs)(h:Hd)(on:Bool)(p2 p3 p4:Value)(E:Xu)(i:Nat)(w:World)(hR:gB w z0 H h on p2 p3 p4)(hS:ob w E i a)(hn:E=none->a.length=0/\i=0)(ha:∀B,E=some B->∃g,B=⟨g,0,none⟩)(P:∀j,j<a.length->(aG a j).size<=1073741824/\(ak a j).size<=1073741824) :
  Calls prog 32 #[pointer (some ⟨z0,0,none⟩),slice E a.length i] w fun e t=>e=returned (int i64 (dS a))/\RI w z0 h (jW H a) p2 p3 p4 (dS a) t:=by
 have HR:Xr _:=hR;by_cases h4:4<a.length
 ·have G:Xr (dS a=1):=by show _=_;unfold dS;rw[Tq h4]
  rw[G.o];have an:(4:Int)<a.length:=by omega
  clear hR;go_enter func32,ntmps32;go_wp2;go_ret;exact⟨rfl,RI.stay (by decide) (ae.refl _ _)⟩
 ·have G:Xr (dS a=dd (EL a) a.length):=by show _=_;unfold dS;rw[To h4]
  obtain⟨r,Hr⟩:=bn (dS a);rw[Hr.o]at G ⊢;have an:¬(4:Int)<a.length:=by omega
  have V:Xr _:=hS;have HN:Xr _:=hn;have X:Xr _:=ha;have K:Xr _:=P;obtain⟨iF,az,R,S,T⟩:=TY Bn;clear hR hS hn ha P;go_enter func32,ntmps32;go_wp2
  go_loopg [5] a.length (fun g iv wr=>∃k:Nat,k<=a.length/\g=a.length-k/\iv=int i64 k/\Xr (dd (EL a) k=0)/\Xr (ae [] w wr))
  ·exact⟨0,by omega,rfl,rfl,rfl,ae.refl _ _⟩
  obtain⟨k,hk,hg,rfl,HZ,x⟩:=hrel;rcases kn k a.length with ⟨s,a1⟩ | ⟨s,-⟩
  ·have a0:(0:Int)<=(k:Int):=(by omega);have aT:=V.o.1;obtain⟨C,rfl,y,c0,c1⟩:=(ob.XD V.o x.o).2 k s;have HC:Xr (∀t,ae [] wr t->t.cell? ⟨C,k*2,none⟩=some (string (aG a k))/\t.cell? ⟨C,k*2+1,none⟩=some (string (ak a k))/\C<t.heap.size):=fun t kw=>⟨by rw[TN (kw.block C y (by simp))];exact c0,by rw[TN (kw.block C y (by simp))];exact c1,Tv y kw.size⟩
   have z:Xr (∀v,ae [] wr v->Calls prog 36 #[slice (some ⟨C,0,none⟩) k i,string (aG a k)] v fun e t=>e=returned (int i64 (bS (a.take k) (aG a k)))/\t=v):=fun v kx=>by
    have hl:(a.take k).length=k:=(by rw[UI];omega);have:=nu (a.take k) (some ⟨C,0,none⟩) i (aG a k) v (by omega) (ob.take (ob.XD V.o (x.o.trans kx)) k hk);rw[hl]at this;exact this
   have F:Xr (∀v,Calls prog 35 #[string (aG a k),string (ak a k)] v fun e t=>e=returned (int i64 (dn (aG a k) (ak a k)))/\t=v):=fun v=>C4 _ _ v (K.o k s).1 (by have:=(K.o k s).2;omega);have l:Xr (EL a k=if(dn (aG a k) (ak a k)==0)=false then dn (aG a k) (ak a k) else if 0<=bS (a.take k) (aG a k) then 4 else 0):=rfl;have J:Xr ((EL a k==0)=false->r=EL a k):=fun q=>by rw[G.o];exact nf HZ.o q s
   have Y:Xr (EL a k=0->dd (EL a) (k+1)=0):=fun q=>by rw[dd,HZ.o];exact q
   generalize aG a k=nm at *;generalize ak a k=dt at *;obtain⟨ck,ai⟩:=bn (dn nm dt);rw[ai.o]at F l;obtain⟨fi,al⟩:=bn (bS (a.take k) nm);rw[al.o]at z l;(go_upto_region 6 with fail);go_region_with (go_at_call 35;refine(F.o _).mono ?_;rintro e U ⟨rfl,aS⟩)
   all_goals
    subst aS;obtain⟨U,H9⟩:=bn (wr.drew);rw[H9.o];have f:Xr (ae [] wr U):=by show ae _ _ _;rw[<-H9.o];exact(ae.refl [] wr).drew
    clear c0 c1 y;cases c:(ck==0)
    ·rw[c,Tq rfl]at l;have p:Xr _:=(J.o (by rw[l.o];exact c));rw[l.o]at p;have ax:(ck != 0)=true:=(by unfold bne;rw[c];rfl);go_wp2;go_ret;exact⟨au p.o.symm,RI.stay (by rw[p.o];exact fun q=>by rw[q]at c;cases c) (x.o.trans f.o)⟩
    ·rw[c,To (by simp)]at l;have ax:(ck != 0)=false:=(by unfold bne;rw[c];rfl);obtain⟨d0,d1,d2⟩:=HC.o U f.o;by_cases N:0<=fi
     ·rw[Tq N]at l;have p:Xr _:=(J.o (by rw[l.o];rfl));rw[l.o]at p;(go_upto_region 9 with fail);go_region_with (go_at_call 36;refine(z.o _ (by exact f.o.drew)).mono ?_;rintro e w8 ⟨rfl,D⟩)
      all_goals
       subst D;have A:Xr (ae [] w U.drew):=(x.o.trans f.o).drew;go_wp2;go_ret;exact⟨au p.o.symm,RI.stay (by rw[p.o];decide) A.o⟩
     ·rw[To N]at l;have HM:Xr _:=Y.o l.o;(go_upto_region 9 with fail);go_region_with (go_at_call 36;refine(z.o _ (by exact f.o.drew)).mono ?_;rintro e w8 ⟨rfl,D⟩)
      all_goals
       subst D;have A:Xr (ae [] w U.drew):=(x.o.trans f.o).drew;go_wp2;go_roundg (a.length-(k+1))
       ·exact⟨k+1,by omega,rfl,by go_num,HM,A⟩
       omega
  ·have e:k=a.length:=(by omega);subst e;have p:Xr (r=0):=cg (by rw[G.o];exact HZ.o);have a2:¬(a.length:Int)<a.length:=by omega
   have I:Xr _:=HR.o.XD x.o;have ar:aB wr ⟨none,0⟩ (cW []):=Tw _ _ _ _;have af:Xr _:=ob.XD V.o x.o;have av:Xr (∀B,E=some B->∀j u,(rS a)[j]?=some u->wr.cell? (B.add j)=some u):=fun B e j u hu=>by
    obtain⟨g,rfl⟩:=X.o B e;rw[bX];exact MM (by rw[<-e];exact af.o) j u hu
   have ap:Xr ((cW ([]:Fs)).n+a.length<=1000000000):=(by show 0+a.length<=_;omega);have ac:Xr (∀m:Nat,(cW ([]:Fs)).n+m=m):=fun m=>Vq m;(go_upto_region 12 with fail);go_wp2_with (at_builtin;refine fg _ rfl (.const (slice none 0 0)) (.tmp 43) 33 rfl iF (agg #[string ⟨#[]⟩,string ⟨#[]⟩]) 32 ⟨none,0⟩ (cW []) underlying33 az R S T rfl Xa rfl ar E a.length i (rS a) rfl (wI a) HN.o av.o (Ij a) ap.o (by omega) ?_;intro h5 w5 Q O;have K5:ae [] wr w5:=(O.XQ.mono (by simp[Hd.XR]));have L:=K5.get I.o.d (by simp);have v0:w5.cell? ⟨z0,0,none⟩=some (slice h.ao H.length h.cap):=(by rw[ah L];rfl);have v1:w5.cell? ⟨z0,1,none⟩=some (bool on):=(by rw[ah L];rfl);have e0:=am L 0;have e1:=am L 1;have vz:=aj L);go_ret;have er:(⟨(cW []).e,(cW []).size,(cW []).n+a.length,(cW []).xs++rS a⟩:eQ)=cW a:=by
    show eQ.mk _ _ (0+a.length) ([]++rS a)=_;rw[Vq];rfl
   rw[er]at Q;have M:∀q,h5.XR=some q->wr.heap.size<=q:=by
    intro q W;rcases O.XR with e | ⟨g,e,hg⟩
    ·rw[e]at W;cases W
    ·rw[e]at W;cases W;exact hg
   have Z:=(I.o.newRow K5 Q M (by omega) (ac.o a.length)).off;have ag:Xr _:=z8 (fs0:=H) (Hr.o.trans p.o);exact⟨au p.o.symm,by rw[ag.o];exact⟨fun _=>⟨h5,Z,(((x.o.trans K5).mono (by simp)).sl1 _).sl1 _,fun b hb=>TA (TE x.o.size (M b hb))⟩,fun q=>absurd p.o q⟩⟩
end Go.Proofs.YtnbhnocdhbcbcaaGreat

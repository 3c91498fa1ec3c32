import Derived.Test.YtnbhnocdhbcbcaaGreatG23
import Derived.Test.YtnbhnocdhbcbcaaGreatG26
namespace Go.Proofs.YtnbhnocdhbcbcaaGreat
open Go.RowKit Tryz
open Value IntKind Ending
set_option maxHeartbeats 0
variable{d z1:ByteArray}{w x t M z7 zb:Nat}{u:List ByteArray}{n:List Tk}{z3:Tk}{k:List Sm}{y i:World}{p z6:Option Addr}{z4:List Nat}{N g c z2 y0 y5:Value}{o:Fs}{D:Hd}{z5:Bool}(v:Nat)(H:Fs)(I L:ByteArray)(l:Nat)(b:List Tk)(z0:Nat->List Bool->List Tk->List Tk×List Bool)
theorem cg{l m:List UInt8}(h:(d.toList==l)=true):(d.toList==m)=(l==m):=by
 have:d.toList=l:=by simpa using h
 rw[this]
section
variable {T:List Tk} {S:List Sm} {f:Nat}
structure sN(T:List Tk)(S:List Sm)(j:Nat):Prop where
 le:(aq S j).h<=(aq S j).z-1
 zt:(aq S j).z<=T.length
 pos:0<(aq S j).z
 dot:((tS T ((aq S j).z-1)).toList == [36,46])=true
 cl:iE (aq S j).k (dX T (aq S j).h ((aq S j).z-1))=0
 w:∀q,(aq S j).h<=q->q<(aq S j).z-1->mu T S (aq S j).k (tS T q) j (dX T (aq S j).h q)=0/\bY (tS T q)=false
theorem ld(p:By T T.length S f)(c:∀q,q<T.length->a9 T S q=0)(j:Nat)(h:j<S.length)(u:bY (aq S j).k=false):sN T S j:=by
 have t:=Bq p j h;obtain⟨P,o⟩:=p.s j h;have b:(aq S j).h<=(aq S j).z-1->(aq S j).a<(aq S j).h->sN T S j:=fun l A=>by
  have B:=P.lt;have r:=c ((aq S j).z-1) (by omega);rw[t ((aq S j).z-1) (by omega) (by omega),RU (by omega),RU (by omega)]at r;obtain⟨v,w⟩:=xB P.e r;refine⟨l,o,by omega,v,w,fun q F y=>?_⟩;have Q:=c q (by omega);rw[t q (by omega) (by omega),RU (by omega),RU (by omega)]at Q;exact⟨Q,P.n q (by omega) y⟩
 have d:=P.k;have G:=P.lt;unfold dQ at d;by_cases g:(gW (tS T (aq S j).a) ⟨#[36]⟩||decide (T.length<=(aq S j).a+1))=true
 ·rw[RY g]at d;have i:(aq S j).k=tS T (aq S j).a:=congrArg Prod.fst d;have x:(aq S j).h=(aq S j).a+1:=congrArg Prod.snd d;refine b ?_ (by omega);by_cases C:(aq S j).z-1=(aq S j).a
  ·have:=P.e;rw[C,<-i,u]at this;cases this
  ·omega
 ·rw[RU g]at d;have i:(aq S j).k=tS T ((aq S j).a+1):=congrArg Prod.fst d;have x:(aq S j).h=(aq S j).a+2:=congrArg Prod.snd d;have m:gW (tS T (aq S j).a) ⟨#[36]⟩=false:=by
   cases e:gW (tS T (aq S j).a) ⟨#[36]⟩
   ·rfl
   ·rw[e]at g;exact absurd rfl g
  refine b ?_ (by omega);have D:(aq S j).z-1≠(aq S j).a:=fun e=>by
   have:=(lg P.e).1;rw[e,m]at this;cases this
  have E:(aq S j).z-1≠(aq S j).a+1:=fun e=>by
   have:=P.e;rw[e,<-i,u]at this;cases this
  omega
theorem sU(T:List Tk)(h i q:Nat)(a:h+q<i)(b:i<=T.length):(dX T h i).getD q ⟨#[]⟩=tS T (h+q):=by
 unfold dX tS;rw[RT,Sy,UK,RY (by omega),Us,RT];rw[RQ (by omega)];rfl
theorem nf(T:List Tk)(h i:Nat)(a:h<=i)(b:i<=T.length):(dX T h i).length=i-h:=by
 unfold dX;rw[Sn,To,Tc];omega
theorem tZ(P:sN T S w):bq T (aq S w).h=(dX T (aq S w).h ((aq S w).z-1)).takeWhile jb:=by
 have i:=P.zt;have g:=P.pos;have c:=P.le;unfold bq;have e:T.drop (aq S w).h=(T.drop (aq S w).h).take ((aq S w).z-1-(aq S w).h)++(T.getD ((aq S w).z-1) gB) :: T.drop (aq S w).z:=by
  conv=>lhs;rw[<-List.take_append_drop ((aq S w).z-1-(aq S w).h) (T.drop (aq S w).h)]
  rw[List.drop_drop,show(aq S w).h+((aq S w).z-1-(aq S w).h)=(aq S w).z-1 by omega,GB T ((aq S w).z-1) (by omega),show(aq S w).z-1+1=(aq S w).z by omega]
 rw[e,show ∀(L:List Tk) (t:Tk) (M:List Tk),L++t :: M=(L++[t])++M from fun L t M=>by simp,yU]
 ·rw[sV _ _ (fun u f=>?_) P.dot]
  ·rfl
  ·obtain⟨q,d,a⟩:=Tg f;rw[To,Tc]at d;have:=(P.w ((aq S w).h+q) (by omega) (by omega)).2;unfold bY at this;simp only[Bool.or_eq_false_iff]at this;have b:u.s=tS T ((aq S w).h+q):=by
    rw[<-a,List.getElem_take,UW];unfold tS;rw[RT,RQ (by omega)];rfl
   rw[b];exact this.1.1
 ·exact⟨T.getD ((aq S w).z-1) gB,by simp,t7 P.dot⟩
theorem uU(P:sN T S w):dG T (aq S w).h:=⟨(aq S w).z-1,P.le,by have:=P.zt;have:=P.pos;omega,t7 P.dot⟩
theorem v6(h:mu T S d z1 w u=0)(a:(z1.toList == [36,61])=true):(d.toList == [36,112])=true/\aJ u ⟨#[36,61]⟩=false/\u.length≠0:=by
 unfold mu at h;rw[cg a (m:=[36,46]),RU (by decide),a,TP]at h;cases b:(d.toList == [36,112])
 ·rw[b,Uz,RU (by simp),RY (by rw[pZ a];decide +kernel)]at h;cases h
 ·cases c:aJ u ⟨#[36,61]⟩
  ·rw[b,c]at h;by_cases e:u.length=0
   ·rw[RY (by rfl),RY e]at h;cases h
   ·exact⟨rfl,rfl,e⟩
  ·rw[b,c,RU (by decide),RY (by rw[pZ a];decide +kernel)]at h;cases h
end
section
variable {T:List Tk} {S:List Sm} {f:Nat}
theorem Ad(T:List Tk)(h:Nat):dX T h h=[]:=by unfold dX;rw[Td];simp
theorem wa(P:sN T S w):0<(dX T (aq S w).h ((aq S w).z-1)).length/\(((aq S w).k.toList == [36,102])=true->1<(dX T (aq S w).h ((aq S w).z-1)).length):=by
 have a:=P.cl;unfold iE at a;split at a
 ·cases a
 ·next e =>
  split at a
  ·cases a
  ·next b =>
   refine⟨by omega,fun c=>?_⟩;have:¬(dX T (aq S w).h ((aq S w).z-1)).length<2:=fun d=>b (by rw[c];simp[d]);omega
theorem vP(c:w<=x)(a:x<=T.length)(g:aJ (dX T w x) d=true):∃q,w<=q/\q<x/\tS T q=d:=by
 unfold aJ at g;obtain⟨y,k,e⟩:=SQ.1 g;obtain⟨q,f,i⟩:=Tg k;rw[nf T w x c a]at f;refine⟨w+q,by omega,by omega,?_⟩;have b:=sU T w x q (by omega) a;rw[RT,RQ (by rw[nf T w x c a];exact f)]at b;have j:(dX T w x)[q]=tS T (w+q):=b;rw[<-j,i];have:y.toList=d.toList:=by simpa using e
 apply VW;apply U4.1;rw[<-SM,<-SM,this]
theorem uT(P:sN T S w)(d:((aq S w).k.toList == [36,112])=false):bq T (aq S w).h=dX T (aq S w).h ((aq S w).z-1):=by
 rw[tZ P];refine tA _ ?_;cases e:aJ (dX T (aq S w).h ((aq S w).z-1)) ⟨#[36,61]⟩
 ·rfl
 ·have i:=P.zt;have g:=P.pos;obtain⟨q,b,c,a⟩:=vP P.le (by omega) e;have f:=(P.w q b c).1;have:=(v6 f (by rw[a];decide +kernel)).1;rw[d]at this;cases this
theorem uS(P:sN T S w):((tS T (aq S w).h).toList == [36,61])=false/\(aq S w).h<(aq S w).z-1:=by
 have b:=(wa P).1;have f:=P.zt;have d:=P.pos;rw[nf T _ _ P.le (by omega)]at b;have a:(aq S w).h<(aq S w).z-1:=by omega
 refine⟨?_,a⟩;cases e:((tS T (aq S w).h).toList == [36,61])
 ·rfl
 ·have c:=(P.w _ (RV _) a).1;have:=(v6 c e).2.2;rw[Ad]at this;exact absurd rfl this
theorem zJ(P:sN T S w):0<(bq T (aq S w).h).length/\(bq T (aq S w).h).getD 0 ⟨#[]⟩=tS T (aq S w).h:=by
 obtain⟨b,f⟩:=uS P;have g:=P.zt;have a:=sU T (aq S w).h ((aq S w).z-1) 0 (by omega) (by omega);have c:=(wa P).1;rw[tZ P];rw[Ui]at a;generalize dX T (aq S w).h ((aq S w).z-1)=B at *;cases B with
 | nil=>simp at c
 | cons x B =>
  have e:x=tS T (aq S w).h:=a;have d:jb x=true:=by unfold jb;rw[e,b];rfl
  rw[TT d];exact⟨by simp,e⟩
theorem Pp(p:By T T.length S f)(b:∀q,q<T.length->a9 T S q=0)(n:Nat)(i:n<=S.length):KT T S n:=fun j g c=>by
 have a:bY (aq S j).k=false:=by
  unfold ay aF at c;simp only[Bool.or_eq_true]at c;rcases c with (h | h) | (h | h) <;> exact fB h (by decide)
 have P:=ld p b j (by omega) a;refine⟨(zJ P).1,fun e=>?_⟩;have d:((aq S j).k.toList == [36,112])=false:=by rw[cg e];decide
 show 1<(bq T (aq S j).h).length;rw[uT P d];exact(wa P).2 e
theorem tQ(h:mu T S d z1 w u=0)(a:bY z1=false)(e:(z1.toList == [36,61])=false)(b:aJ u ⟨#[36,61]⟩=false):(if((d.toList == [36,99])||(d.toList == [36,118]))=true then jT T S z1 w (d.toList == [36,99]) u else g7 T S d z1 w u)=0:=by
 unfold mu at h;have c:(z1.toList == [36,46])=false:=by
  unfold bY at a;simp only[Bool.or_eq_false_iff]at a;exact a.1.1
 rw[c,e,b,RU (by simp),Uz,RU (by simp)]at h;split at h
 ·cases h
 ·exact h
theorem Dy(P:sN T S w)(c:(ay (aq S w).k||aF (aq S w).k)=true):ee T S (tS T (aq S w).h) w=true:=by
 obtain⟨e,f⟩:=uS P;obtain⟨d,i⟩:=P.w _ (RV _) f;rw[Ad]at d;have b:=tQ d i e rfl;have a:(((aq S w).k.toList == [36,99])||((aq S w).k.toList == [36,118]))=false/\((aq S w).k.toList == [36,100])=false:=by
  unfold ay aF at c;simp only[Bool.or_eq_true]at c;rcases c with (h | h) | (h | h) <;> (rw[cg h,cg h,cg h];decide)
 rw[a.1,RU (by simp)]at b;unfold g7 at b;rw[a.2,RU (by simp),RY (by rfl)]at b;cases g:ee T S (tS T (aq S w).h) w
 ·rw[g,RY rfl]at b;cases b
 ·rfl
theorem LK(P:sN T S w)(a:((aq S w).k.toList == [36,102])=true):ik T S (tS T ((aq S w).h+1)) w=true/\(bq T (aq S w).h).getD 1 ⟨#[]⟩=tS T ((aq S w).h+1):=by
 have l:=(wa P).2 a;have p:=P.zt;have o:=P.pos;rw[nf T _ _ P.le (by omega)]at l;have b:((aq S w).k.toList == [36,112])=false:=by rw[cg a];decide
 have j:=sU T (aq S w).h ((aq S w).z-1) 1 (by omega) (by omega);refine⟨?_,by rw[uT P b];exact j⟩;obtain⟨f,i⟩:=P.w ((aq S w).h+1) (by omega) (by omega);have m:((tS T ((aq S w).h+1)).toList == [36,61])=false:=by
  cases e:((tS T ((aq S w).h+1)).toList == [36,61])
  ·rfl
  ·have:=(v6 f e).1;rw[b]at this;cases this
 have d:dX T (aq S w).h ((aq S w).h+1)=[tS T (aq S w).h]:=by
  have:=BE T (aq S w).h (aq S w).h (RV _) (by omega);rw[Ad]at this;exact this
 have g:aJ (dX T (aq S w).h ((aq S w).h+1)) ⟨#[36,61]⟩=false:=by
  rw[d,rS];have e:(⟨#[36,61]⟩:ByteArray).toList=[36,61]:=by decide +kernel
  rw[e];exact(uS P).1
 have c:=tQ f i m g;rw[cg a,cg a,RU (by decide)]at c;unfold g7 at c;rw[d,cg a,RU (by decide),RU (by simp),a,RY rfl,RU (by simp)]at c;cases n:ik T S (tS T ((aq S w).h+1)) w
 ·rw[n,RY rfl]at c;cases c
 ·rfl
theorem mn(p:By T T.length S f)(n:∀q,q<T.length->a9 T S q=0)(hi:w<=S.length)(hk:x<=S.length)(s:ee T S d w=true)(t:ik T S d x=true):False:=by
 unfold ee jm at s;unfold ik jm at t;obtain⟨j,u,v⟩:=SQ.1 s;obtain⟨m,I,y⟩:=SQ.1 t;have u:=Sd.1 u;have I:=Sd.1 I;unfold oi at v y;rw[ou.1,Sk,Sk]at v;rw[ou.2,Sk,Sk]at y;obtain⟨l,G,-⟩:=v;obtain⟨F,L,-⟩:=y;have c:∀(j:Nat),j<S.length->(((aq S j).k.toList == [36,99])=true∨((aq S j).k.toList == [36,118])=true)->aJ (bq T (aq S j).h) d=true->∃B,jT T S d j ((aq S j).k.toList == [36,99]) B=0:=fun j u a H=>by
  have g:bY (aq S j).k=false:=by rcases a with h | h <;> exact fB h (by decide)
  have P:=ld p n j u g;have o:((aq S j).k.toList == [36,112])=false:=by rcases a with h | h <;> (rw[cg h];decide)
  rw[uT P o]at H;have hz:=P.zt;have Y:=P.pos;obtain⟨q,E,K,e⟩:=vP P.le (by omega) H;obtain⟨W,V⟩:=P.w q E K;have b:∀q,(aq S j).h<=q->q<(aq S j).z-1->((tS T q).toList == [36,61])=false:=fun q s t=>by
   cases e:((tS T q).toList == [36,61])
   ·rfl
   ·have:=(v6 (P.w q s t).1 e).1;rw[o]at this;cases this
  have Q:aJ (dX T (aq S j).h q) ⟨#[36,61]⟩=false:=by
   cases O:aJ (dX T (aq S j).h q) ⟨#[36,61]⟩
   ·rfl
   ·obtain⟨Z,M,a2,N⟩:=vP E (by omega) O;have:=b Z M (by omega);rw[N]at this;exact absurd this (by decide +kernel)
  have J:=tQ W V (b q E K) Q;rw[RY (by rcases a with h | h <;> rw[h] <;> simp),e]at J;exact⟨_,J⟩
 obtain⟨B1,i⟩:=c j (by omega) (R4 l) G;obtain⟨B2,k⟩:=c m (by omega) (RZ F) L;have r:((aq S m).k.toList == [36,99])=false:=by rw[cg F];decide
 rw[l]at i;rw[r]at k;unfold jT at i k;rcases Vj j m with D | A | C
 ·have R:ee T S d m=true:=by
   unfold ee jm;exact mK j D (by unfold oi;rw[ou.1,l,G];simp)
  rw[R]at k;split at k
  ·cases k
  ·simp at k
 ·rw[A,r]at l;cases l
 ·have U:jm T S ⟨#[36,118]⟩ d j false=true:=by
   unfold jm;exact mK m C (by unfold oi;rw[ou.2,F,L];simp)
  have X:jy T S d j=true:=by unfold jy;rw[U];simp
  rw[X]at i;split at i
  ·cases i
  ·simp at i
theorem Q3(p:By T T.length S f)(a:∀q,q<T.length->a9 T S q=0)(n:Nat)(A:n<=S.length):PE T S n:=fun r B g=>by
 have P:=ld p a r (by omega) (by unfold ay at g;rcases SL _ _ ▸ g with h | h <;> exact fB h (by decide));have w:=Dy P (by rw[g];rfl);have s:(a8 T S r).getD 0 ⟨#[]⟩=tS T (aq S r).h:=(zJ P).2;rw[s];cases e:aJ (bE T S (aZ T S r) (aZ T S r).length) (tS T (aq S r).h)
 ·rfl
 ·exfalso
  unfold aJ at e;obtain⟨y,l,d⟩:=SQ.1 e;unfold bE at l;obtain⟨i,k,rfl⟩:=Tw.1 l;unfold so at k;obtain⟨b,c⟩:=SD.1 k;have b:=Sd.1 b;have v:(aZ T S r).getD i 0=(aZ T S r)[i]:=by rw[RT,RQ b];rfl
  unfold rA at c;rw[v]at c d;have z:=pW T S r (aZ T S r)[i] (Sj b);generalize (aZ T S r)[i]=j at *;have o:=ld p a j (by omega) (fB c (by decide));obtain⟨m,x⟩:=LK o c;have t:a8 T S j=bq T (aq S j).h:=rfl;rw[t,x]at d;have u:tS T ((aq S j).h+1)=tS T (aq S r).h:=by
   have:(tS T ((aq S j).h+1)).toList=(tS T (aq S r).h).toList:=(by simpa using d);apply VW;apply U4.1;rw[<-SM,<-SM,this]
  rw[u]at m;exact mn p a (by omega) (by omega) w m
end
theorem Ph(d:b.length<=10000)(a:∀q,q<b.length->a9 b (ab b) q=0)(n:Nat)(g:n<=(ab b).length):oP b (ab b) n:=by
 have p:=dL b;have k:(ab b).length<=b.length:=tI b b.length;obtain⟨i,c⟩:=AQ b (by omega) a;have h:oP b (ab b) (ab b).length:=⟨i,by omega,d,fun j e f=>uU (ld p a j e f),c⟩;exact h.mono g
def Gn(S:List Sm)(a r:Nat):Prop:=r<a/\(ay (aq S r).k||aF (aq S r).k)=true
structure PD(T:List Tk)(S:List Sm)(a i:Nat)(s:cW):Prop where
 nd:s.need<=10000
 Wu:s.ref=-1∨(s.ref=-2/\s.back<i)∨∃r,Gn S a r/\s.ref=(r:Nat)/\s.need=gu T S (r:Nat)
def nG(T:List Tk)(S:List Sm)(a:Nat)(P:List cW):Prop:=∀i,i<P.length->PD T S a i (bK P i)
section
variable {T:List Tk} {S:List Sm} {a:Nat}
theorem nG.snoc{P:List cW}{s:cW}(h:nG T S a P)(f:PD T S a P.length s):nG T S a (P++[s]):=fun i d=>by
 rw[R9,SA,SN]at d;by_cases e:i<P.length
 ·have b:bK (P++[s]) i=bK P i:=by unfold bK;rw[RT,RT,Si e]
  rw[b];exact h i e
 ·have c:i=P.length:=by omega
  have b:bK (P++[s]) i=s:=by unfold bK;rw[c,RT,Sf (RV _),Td];rfl
  rw[b,c];exact f
theorem nG.nil:nG T S a []:=fun i b=>by simp at b
theorem CQ(b:a<=10000)(c:w<a):gu T S (w:Nat)<=10000:=by
 unfold gu;split
 ·omega
 ·split
  ·have:=mY T S (w:Int).toNat;rw[SO]at this ⊢;omega
  ·omega
theorem zN(h:dM T S a d=(w:Int)):Gn S a w:=by
 have f:=qz T S a d;rw[h]at f;rcases f with e | ⟨q,l,e⟩
 ·omega
 ·have g:w=q:=by omega
  subst g;refine⟨l,?_⟩;unfold dM at h;split at h
  ·omega
  ·split at h
   ·unfold bt at h;cases c:(List.range a).find? (mz T S d) with
    | none=>rw[c]at h;simp at h
    | some j =>
     rw[c]at h;have i:j=w:=by have h:(j:Int)=(w:Int):=h;omega
     have b:=Uo c;rw[i]at b;unfold mz at b;rw[Sk]at b;cases k:(ay (aq S w).k||aF (aq S w).k)
     ·exfalso
      have:bN T (aq S w)=⟨#[]⟩:=(by unfold bN;rw[k,RU (by simp)]);rw[this]at b;exact absurd b.1 (by decide +kernel)
     ·rfl
   ·omega
theorem LI(m:a<=10000)(e:Nat)(n:Nat):∀i P,nG T S a P->nG T S a (l8 T S a e n i P).st/\((l8 T S a e n i P).why=0->0<(l8 T S a e n i P).st.length)/\(l8 T S a e n i P).st.length<=P.length+n:=by
 induction n with
 | zero =>
  intro i P d;rw[l8];split
  ·exact⟨nG.nil,fun h=>(by cases h),SE _⟩
  ·exact⟨d,fun _=>(by simp only;omega),(by simp)⟩
 | succ n l =>
  intro i P d;rw[l8];split
  ·obtain⟨b,c,f⟩:=l (i+1) _ (d.snoc (s:=⟨-1,0,0,(T.getD i gB).file,(T.getD i gB).line,(T.getD i gB).col⟩) ⟨by show 0<=10000;omega,R4 rfl⟩);exact⟨b,c,by simp at f ⊢;omega⟩
  ·split
   ·exact⟨nG.nil,fun h=>(by cases h),SE _⟩
   ·next b c =>
    obtain⟨k,g⟩:∃k:Nat,dM T S a (tS T i)=k:=⟨(dM T S a (tS T i)).toNat,by omega⟩
    have j:=zN g;rw[g];obtain⟨b,c,f⟩:=l (i+1) _ (d.snoc (s:=⟨(k:Int),0,gu T S (k:Int),(T.getD i gB).file,(T.getD i gB).line,(T.getD i gB).col⟩) ⟨CQ m j.1,RZ (RZ ⟨k,j,rfl,rfl⟩)⟩);exact⟨b,c,by simp at f ⊢;omega⟩
theorem Nj(A:a<=10000)(d:List Nat)(n:∀r∈d,Gn S a r)(v:Lt)(L:List Lt):∀P b f g,nG T S a P->(∀t∈b,t<P.length)->(g=true->0<P.length) ->
  nG T S a (mv T S d v L P b f g).st/\((mv T S d v L P b f g).why=0->0<(mv T S d v L P b f g).st.length)/\(mv T S d v L P b f g).st.length<=P.length+L.length:=by
 induction L with
 | nil =>
  intro P b f g o _ _;rw[mv];split
  ·exact⟨nG.nil,fun h=>(by cases h),SE _⟩
  ·split
   ·exact⟨nG.nil,fun h=>(by cases h),SE _⟩
   ·exact⟨o,fun _=>(by simp only;omega),(by simp)⟩
 | cons l L w =>
  intro P b f g o p z;rw[mv];split
  ·obtain⟨i,j,k⟩:=w P b (f++vR l.c) false o p (fun h=>by cases h);exact⟨i,j,by simp at k ⊢;omega⟩
  ·split
   ·split
    ·exact⟨nG.nil,fun h=>(by cases h),SE _⟩
    ·next y =>
     have B:=zs (f++vR l.c) (d.length+b.length);generalize fV (f++vR l.c) (d.length+b.length)=m at *;have D:PD T S a P.length (pi T S d b m l):=by
      unfold pi;split
      ·next C =>
       have q:m-1<d.length:=(by omega);have e:d.getD (m-1) 0=d[m-1]:=(by rw[RT,RQ q];rfl);have x:=n d[m-1] (Sj q);rw[e];exact⟨CQ A x.1,RZ (RZ ⟨_,x,rfl,rfl⟩)⟩
      ·next C =>
       have q:m-d.length-1<b.length:=(by omega);have e:b.getD (m-d.length-1) 0=b[m-d.length-1]:=(by rw[RT,RQ q];rfl);rw[e];exact⟨by show 0<=10000;omega,RZ (R4 ⟨rfl,p _ (Sj q)⟩)⟩
     obtain⟨i,j,k⟩:=w _ b ⟨#[]⟩ true (o.snoc D) (fun t u=>by rw[R9];have:=p t u;omega) (fun _=>by simp);exact⟨i,j,by simp at k ⊢;omega⟩
   ·split
    ·next y =>
     have E:=z y.2
     obtain⟨i,j,k⟩:=w P (b++[P.length-1]) f false o (fun t u=>by
      rcases SB.1 u with h | h
      ·exact p t h
      ·rw[Se.1 h];omega) (fun h=>by cases h)
     exact⟨i,j,by simp at k ⊢;omega⟩
    ·split
     ·obtain⟨i,j,k⟩:=w _ b f false (o.snoc (s:=⟨-1,0,0,l.file,l.line,l.col⟩) ⟨by show 0<=10000;omega,R4 rfl⟩) (fun t u=>by rw[R9];have:=p t u;omega) (fun h=>by cases h);exact⟨i,j,by simp at k ⊢;omega⟩
     ·exact⟨nG.nil,fun h=>(by cases h),SE _⟩
theorem OK(o:a<=10000)(m:fc T)(c:Nat)(n:Nat):∀i b,(∀r∈b,Gn S a r)->nG T S a (rk T S a c n i b).st/\((rk T S a c n i b).why=0->0<(rk T S a c n i b).st.length)/\(rk T S a c n i b).st.length<=1024*T.length:=by
 induction n with
 | zero=>intro i b _;rw[rk];exact⟨nG.nil,fun h=>(by cases h),SE _⟩
 | succ n q =>
  intro i b l;rw[rk];split
  ·obtain⟨e,f,g⟩:=Nj (T:=T) o b l (DR (T.getD c gB)) (ew T (i+1) c) [] [] ⟨#[]⟩ false nG.nil (fun t p=>by cases p) (fun h=>by cases h);have:=xM T m (i+1) c;rw[SN,Ut]at g;exact⟨e,f,by unfold jW;omega⟩
  ·split
   ·exact⟨nG.nil,fun h=>(by cases h),SE _⟩
   ·split
    ·exact⟨nG.nil,fun h=>(by cases h),SE _⟩
    ·next e f g =>
     obtain⟨k,j⟩:∃k:Nat,dM T S a (tS T i)=k:=⟨(dM T S a (tS T i)).toNat,by omega⟩
     refine q (i+1) _ (fun r d=>?_);rcases SB.1 d with h | h
     ·exact l r h
     ·rw[Se.1 h,j,SO];exact zN j
theorem wH(g:a<=10000)(i:fc T)(m:T.length<=10000)(e b:Nat)(n:b<=T.length):nG T S a (fF T S a e b).st/\((fF T S a e b).why=0->0<(fF T S a e b).st.length)/\(fF T S a e b).st.length<=100000000:=by
 unfold fF;split
 ·unfold jF
  obtain⟨c,d,f⟩:=OK (T:=T) (S:=S) g i b (b-(e+2)) (e+2) (aZ T S a) (fun r j=>by
   obtain⟨k,-,l⟩:=zk T S a r j;exact⟨k,by rw[l];simp⟩)
  exact⟨c,d,by omega⟩
 ·obtain⟨c,d,f⟩:=LI (T:=T) (S:=S) g b (b-(e+1)) (e+1) [] nG.nil;exact⟨c,d,by simp at f;omega⟩
theorem IQ(n:a<=10000)(l:fc T)(m:T.length<=10000)(e b:Nat)(q:b<=T.length):La T S a (fF T S a e b):=by
 obtain⟨g,s,t⟩:=wH (T:=T) (S:=S) n l m e b q;refine⟨t,fun i=>?_,fun h=>⟨s h,fun i c d=>⟨?_⟩⟩⟩
 ·by_cases c:i<(fF T S a e b).st.length
  ·have:=(g i c).nd;omega
  ·have:bK (fF T S a e b).st i=Q1:=(by unfold bK;rw[RT,SG (by omega)];rfl);rw[this];show 0<=100000;omega
 ·rcases(g i c).Wu with h | ⟨h,o⟩ | ⟨r,f,j,k⟩
  ·exact absurd h d
  ·exact R4 ⟨h,o⟩
  ·refine RZ ⟨r,f.1,j,f.2,fun p=>?_⟩;rw[k];unfold gu;rw[RU (by omega),SO,RY p]
end
def yl(t:Tk):Prop:=t.s.size<=1024/\0<=t.col/\t.col<=10000
theorem As:fc []:=fun t a=>by cases a
theorem mN{M:List Tk}(h:fc n)(k:fc M):fc (n++M):=fun t a=>by
 rcases SB.1 a with e | e
 ·exact h t e
 ·exact k t e
theorem lY(h:yl z3):fc [z3]:=fun u a=>by rw[Se.1 a];exact h
theorem tw(r:Int)(h:yl z3):yl (rr z3 r):=⟨by show(0:Nat)<=1024;omega,h.2⟩
theorem Be(s:ByteArray)(r:Int)(k:Nat)(a:s.size<=1024)(b:k<=1024):yl (mJ I L s r k):=by
 have:=Am L k;exact⟨a,by show 0<=bC L k;omega,by show bC L k<=10000;omega⟩
theorem DM(z:Nat)(a:List Tk)(b:fc a)(c:l<=z)(d:z<=1024):fc (jA I L l z a):=by
 unfold jA;split
 ·exact b
 ·exact mN b (lY (Be I L _ 0 l (by rw[UL];omega) (by omega)))
theorem DJ(i:Nat)(b:i<=1024):fc (jz I L i):=by
 induction i with
 | zero=>exact As
 | succ i a =>
  rw[jz];split
  ·exact DM I L _ i _ (a (by omega)) (oI L i) (by omega)
  ·exact a (by omega)
theorem KO(a:L.size<=1024):fc (iA I L):=by
 unfold iA;split
 ·next i h =>
  have b:i<L.size:=Sd.1 (SU h);exact mN (DJ I L i (by omega)) (lY (Be I L _ 1 i (by show(0:Nat)<=1024;omega) (by omega)))
 ·exact mN (DM I L _ _ _ (DJ I L _ a) (oI L _) a) (lY (Be I L _ 0 _ (by show(0:Nat)<=1024;omega) a))
theorem wW(h:yl z3)(k:fc n):fc (z3 :: n):=fun u a=>by
 rcases Sv.1 a with e | e
 ·rw[e];exact h
 ·exact k u e
theorem Lr(b:Bool)(L:List Tk)(h:fc L):fc (bV b L):=by
 induction L generalizing b with
 | nil=>cases b <;> exact As
 | cons t L c =>
  have d:yl t:=h t (Sz ..);have a:fc L:=fun u f=>h u (Sx _ f);have e:∀r,yl ⟨⟨#[]⟩,r,t.file,t.line,t.col⟩:=fun r=>⟨by show(0:Nat)<=1024;omega,d.2⟩
  cases b
  ·rw[bV];split
   ·exact c true a
   ·exact wW d (c false a)
  ·rw[bV];split
   ·exact wW d (c true a)
   ·split
    ·exact c false a
    ·split
     ·exact wW (e 3) (c true a)
     ·split
      ·exact lY (e 2)
      ·exact c true a
theorem JR(f:∀k e c,fc c->fc (z0 k e c).1)(w:Fs)(n:Nat):∀L,L.length<=n->fc L->∀e c,fc c->fc (cN z0 w L e c).1:=by
 induction n with
 | zero =>
  intro L m _ e c d;cases L with
  | nil=>rw[cN];exact d
  | cons _ _=>simp at m
 | succ n q =>
  intro L m s e c d;cases L with
  | nil=>rw[cN];exact d
  | cons t r =>
   have o:yl t:=s t (Sz ..);have l:fc r:=fun u p=>s u (Sx _ p);have g:r.length<=n:=(by simpa using m);rw[cN.eq_def];simp only;split
   ·split
    ·exact d
    ·exact mN d (lY (tw 7 o))
   ·split
    ·exact q r g l e _ (mN d (lY o))
    ·split
     ·exact mN d (lY (tw 4 o))
     ·cases r with
      | nil=>exact d
      | cons a r =>
       have v:yl a:=l a (Sz ..);cases r with
       | nil=>exact mN d (lY (tw _ v))
       | cons b r =>
        have x:yl b:=l b (Sx _ (Sz ..));have j:fc r:=fun u p=>l u (Sx _ (Sx _ p));have i:r.length<=n:=(by simp at g;omega);simp only;split
        ·exact mN d (lY (tw _ v))
        ·split
         ·exact mN d (lY (tw _ x))
         ·split
          ·exact q r i j e c d
          ·split
           ·exact f _ e c d
           ·exact q r i j _ _ (f _ e c d)
theorem JV(b:∀k,(ak H k).size<=1024)(n:Nat):∀k d a,fc a->fc (eD H n k d a).1:=by
 induction n with
 | zero=>intro k d a c;exact c
 | succ n e =>
  intro k d a c;rw[eD];exact JR _ e H _ _ (RV _) (Lr _ _ (KO _ _ (b k))) _ _ c
theorem Cn(a:∀l,(ak H l).size<=1024):fc (cZ H l).1:=by
 have h:fc (pI H l):=JV H a _ _ _ _ As;unfold cZ;split
 ·exact fun t b=>h t (Vs _ b)
 ·exact h
def Ap(T:List Tk)(S:List Sm)(j:Nat):Nat:=(aq S j).h+(bq T (aq S j).h).length
theorem Q4(p:ByteArray->Bool)(L:List ByteArray)(h:∃x∈L,p x=false):(L.takeWhile p).length<L.length/\p (L.getD (L.takeWhile p).length ⟨#[]⟩)=false/\∀q,q<(L.takeWhile p).length->p (L.getD q ⟨#[]⟩)=true:=by
 induction L with
 | nil=>obtain⟨x,f,-⟩:=h;cases f
 | cons a L j =>
  cases b:p a
  ·rw[List.takeWhile_cons,RU (by rw[b];simp)];exact⟨by simp,b,fun q d=>by simp at d⟩
  ·rw[List.takeWhile_cons,RY b]
   obtain⟨k,g,i⟩:=j (by
    obtain⟨x,f,c⟩:=h;rcases Sv.1 f with e | e
    ·rw[e,b]at c;cases c
    ·exact⟨x,e,c⟩)
   refine⟨by simp;omega,g,fun q d=>?_⟩;cases q with
   | zero=>exact b
   | succ q=>exact i q (by simpa using d)
theorem Ni(P:sN n k w)(l:((aq k w).k.toList == [36,112])=true) :
  (aq k w).h<=Ap n k w/\((tS n (Ap n k w)).toList == [36,61])=true/\(∀q,(aq k w).h<=q->q<Ap n k w->((tS n q).toList == [36,61])=false)/\Ap n k w<(aq k w).z-1:=by
 have r:=P.zt;have p:=P.pos;have d:=P.le;have a:=P.cl;have m:=nf n (aq k w).h ((aq k w).z-1) d (by omega);have j:aJ (dX n (aq k w).h ((aq k w).z-1)) ⟨#[36,61]⟩=true:=by
  unfold iE at a;split at a
  ·cases a
  ·split at a
   ·cases a
   ·cases e:aJ (dX n (aq k w).h ((aq k w).z-1)) ⟨#[36,61]⟩
    ·rw[l,e,RY (by decide)]at a;cases a
    ·rfl
 obtain⟨y,o,i⟩:=SQ.1 j;have c:∃x∈dX n (aq k w).h ((aq k w).z-1),jb x=false:=by
  refine⟨y,o,?_⟩;unfold jb;have e:y.toList=(⟨#[36,61]⟩:ByteArray).toList:=by simpa using i
  rw[e];decide +kernel
 obtain⟨f,b,g⟩:=Q4 jb _ c;rw[<-tZ P]at f b g;rw[m]at f;unfold Ap;refine⟨by omega,?_,fun q s t=>?_,by omega⟩
 ·rw[sU n _ _ _ (by omega) (by omega)]at b;unfold jb at b;simpa using b
 ·have:=g (q-(aq k w).h) (by omega);rw[sU n _ _ _ (by omega) (by omega),show(aq k w).h+(q-(aq k w).h)=q by omega]at this;unfold jb at this;simpa using this
def MG(T:List Tk)(S:List Sm)(a:Nat):jM:=fF T S a (Ap T S a) ((aq S a).z-1)
def Bu(T:List Tk)(S:List Sm)(a:Nat):fO:=lh T S a (MG T S a) (T.getD ((aq S a).z-1) gB)
theorem Bz.keptS(h:Bz y p w k)(b:aa z4 y i)(m:∀g,p=some ⟨g,0,none⟩->g∉z4):Bz i p w k:=by
 refine⟨h.1,fun j t n=>?_⟩;obtain⟨g,e,a,c,d,f,l⟩:=h.2 j t n;have q:∀o,i.cell? ⟨g,o,none⟩=y.cell? ⟨g,o,none⟩:=fun o=>Sh (b.block g a (m g e));exact⟨g,e,R6 a b.size,by rw[q];exact c,by rw[q];exact d,by rw[q];exact f,by rw[q];exact l⟩
theorem fZ.off{B:Option Addr}(h:fZ y w n p t k z6 M)(z:y.heap[x]?=some (.cells #[slice B z7 zb,N,g,c,z2] 85))(q:aa [x] y i):fZ i w n p t k z6 M:=by
 obtain⟨A,-⟩:=nR z;refine⟨q.get h.d (fun v=>?_),?_,?_⟩
 ·simp at v;subst v;have:=h.d.symm.trans z;simp at this
 ·cases u:n with
  | nil=>rw[u]at h;exact⟨h.t.1,fun j f o=>by simp at o⟩
  | cons f L =>
   rw[u]at h;refine h.t.keptS q (fun m e b=>?_);simp at b;subst b;obtain⟨m,l,-,a,-⟩:=h.t.2 0 f rfl;rw[l]at e;cases e;rw[V8]at a;rw[A]at a;cases a
 ·cases r:k with
  | nil=>rw[r]at h;exact⟨h.s.1,fun j f o=>by simp at o⟩
  | cons f L =>
   rw[r]at h;refine h.s.keptS q (fun m e b=>?_);simp at b;subst b;obtain⟨m,l,-,a,-⟩:=h.s.2 0 f rfl;rw[l]at e;cases e;rw[V8]at a;rw[A]at a;cases a
theorem EI(g:Option Addr)(y:Nat)(f:Option Addr)(x:Nat)(E:Option Addr)(n c:Nat)(D G H:Value)(w:World)(F:w.heap[v]?=some (.cells #[slice E n c,D,pointer (some ⟨l,0,none⟩),G,H] 85))(N:fZ w l b g y (ab b) f x)(t:b.length<=10000)(A:fc b)(d:∀q,q<b.length->a9 b (ab b) q=0) :
  Calls prog 58 #[pointer (some ⟨v,0,none⟩)] w fun e V=>KY b (ab b) v l (slice E n c) D (MG b (ab b)) (Bu b (ab b)) w e V:=by
 have p:=dL b;have W:(ab b).length<=b.length:=tI b b.length;have s:∀m,aa [v] w m->fZ m l b g y (ab b) f x:=fun m k=>N.off F k;have j:∀a,mR (ab b) a=true->bY (aq (ab b) a).k=false:=fun a h=>fB h (by decide);refine EH v l b g y (ab b) f x _ D G H _ _ w F s (by omega) (Ph b t d _ (RV _)).ok.a ?_ ?_ ?_
 ·intro a o u m C;have P:=ld p d a o (j a u);obtain⟨I,J,K,L⟩:=Ni P u;have:=P.pos;have:=P.zt;exact Em l a (Ap b (ab b) a) ((aq (ab b) a).z-1) b g y _ f x m (s m C) (Ph b t d a (by omega)) o (uU P) A I J K (by omega) L (by omega) P.dot
 ·intro a o u B m C R;have P:=ld p d a o (j a u);have:=P.pos;have:=P.zt;exact Bj l a ((aq (ab b) a).z-1) b g y _ f x (MG b (ab b) a) B m (s m C) (Ph b t d a (by omega)) (Pp p d a (by omega)) (Q3 p d a (by omega)) o (uU P) ((Ph b t d _ (RV _)).ok.a a o) (by omega) (by omega) R (IQ (by omega) A t _ _ (by omega))
 ·intro a o u;have P:=ld p d a o (j a u);have:=P.zt;obtain⟨T,-,U⟩:=wH (T:=b) (S:=ab b) (a:=a) (by omega) A t (Ap b (ab b) a) ((aq (ab b) a).z-1) (by omega);refine⟨U,fun i O=>?_⟩
  show(bK (fF b (ab b) a (Ap b (ab b) a) ((aq (ab b) a).z-1)).st i).ref<=(a:Int)
  rcases(T i O).Wu with h | ⟨h,-⟩ | ⟨r,Q,M,-⟩
  ·rw[h];omega
  ·rw[h];omega
  ·rw[M];have:=Q.1;omega
theorem Fj(j:∀k d c,d[k]?=some false->(z0 k d c).1.length+2000*aU (z0 k d c).2<=c.length+2000*aU d)(f:Fs)(n:Nat):∀L,L.length<=n->∀d c,(cN z0 f L d c).1.length+2000*aU (cN z0 f L d c).2<=c.length+L.length+2000*aU d:=by
 induction n with
 | zero =>
  intro L m d c;cases L with
  | nil=>rw[cN];simp
  | cons _ _=>simp at m
 | succ n p =>
  intro L m d c;cases L with
  | nil=>rw[cN];simp
  | cons t r =>
   have g:r.length<=n:=(by simpa using m);rw[cN.eq_def];simp only[List.length_cons];split
   ·split
    ·simp only;omega
    ·simp only[List.length_append,List.length_cons,List.length_nil];omega
   ·split
    ·have:=p r g d (c++[t]);rw[R9,SA,SN]at this;omega
    ·split
     ·simp only[List.length_append,List.length_cons,List.length_nil];omega
     ·cases r with
      | nil=>simp only;omega
      | cons a r =>
       cases r with
       | nil=>simp only[List.length_append,List.length_cons,List.length_nil];omega
       | cons b r =>
        have i:r.length<=n:=(by simp at g;omega);simp only[List.length_cons];split
        ·simp only[List.length_append,List.length_cons,List.length_nil];omega
        ·split
         ·simp only[List.length_append,List.length_cons,List.length_nil];omega
         ·split
          ·have:=p r i d c;omega
          ·next l =>
           have o:d[(bM f a.s).toNat]?=some false:=by
            rw[RT]at l;cases e:d[(bM f a.s).toNat]? with
            | none=>rw[e]at l;exact absurd rfl l
            | some x=>rw[e]at l;cases x;rfl;exact absurd rfl l
           have q:=j (bM f a.s).toNat d c o;split
           ·omega
           ·have:=p r i (z0 (bM f a.s).toNat d c).2 (z0 (bM f a.s).toNat d c).1;omega
theorem Fl(c:∀k,(ak H k).size<=1024)(n:Nat):∀k b a,b[k]?=some false->(eD H n k b a).1.length+2000*aU (eD H n k b a).2<=a.length+2000*aU b:=by
 induction n with
 | zero=>intro k b a _;rw[eD];simp
 | succ n e =>
  intro k b a d;rw[eD];have f:=Fj (eD H n) e H _ (rD H k) (RV _) (b.set k true) a;have g:=DB H k;have i:=lT b k d;have j:=c k;omega
theorem IW(c:H.length<=4)(a:∀l,(ak H l).size<=1024)(d:l<H.length):(cZ H l).1.length<=10000:=by
 have h:=Fl H a H.length l (List.replicate H.length false) [] (by rw[TJ,RY d]);rw[nD]at h;have b:(pI H l).length<=10000:=by unfold pI;simp at h;omega
 unfold cZ;split
 ·rw[Uc];omega
 ·exact b
structure Pz(w:World)(v:Nat)(fs:Fs)(h:Hd)(T:List Tk)(lo hi b:Nat)(aT:Option Addr)(cT:Nat)(aS:Option Addr)(cS:Nat)(PS:List (jM×Hd))(h1:Hd)(RS:List fO)(h2:Hd):Prop where
 rv:fX w v fs h true (pointer (some ⟨b,0,none⟩)) (slice h1.ao PS.length h1.cap) (slice h2.ao RS.length h2.cap)
 db:fZ w b T aT cT (ab T) aS cS
 ps:PS.map (·.1)=(List.range (ab T).length).map (sg (ab T) (MG T (ab T)))
 fin:oK (ab T) PS ((List.range (ab T).length).map (mS T (ab T) (Bu T (ab T)))) RS (ab T).length
 s1:aC w h1 (gw PS)
 s2:aC w h2 (bZ RS)
 sq:∀x∈PS,cG w x.2.ao 6 lq x.1.st
 nb:lo<=b/\b<hi
 nT:∀g,aT=some ⟨g,0,none⟩->lo<=g/\g<hi
 nS:∀g,aS=some ⟨g,0,none⟩->lo<=g/\g<hi
 n1:∀g,h1.blk=some g->lo<=g/\g<hi
 n2:∀g,h2.blk=some g->lo<=g/\g<hi
 nq:∀x∈PS,∀g,x.2.ao=some ⟨g,0,none⟩->lo<=g/\g<hi
def yn(w:World)(v:Nat)(fs:Fs)(h:Hd)(T:List Tk)(lo hi:Nat):Prop:=∃b aT cT aS cS PS h1 RS h2,Pz w v fs h T lo hi b aT cT aS cS PS h1 RS h2
theorem yn.kept(a:yn y w o D n x t)(k:aa z4 y i)(C:w∉z4)(A:∀q,D.blk=some q->q∉z4)(B:∀q,x<=q->q<t->q∉z4):yn i w o D n x t:=by
 obtain⟨b,p,u,m,r,j,v,l,z,a⟩:=a;have q:∀g,x<=g/\g<t->g∉z4:=fun g c=>B g c.1 c.2
 exact⟨b,p,u,m,r,j,v,l,z,{ a with
  rv:=a.rv.keptS k C A
  db:=⟨k.get a.db.d (q b a.nb),a.db.t.keptS k (fun g e=>q g (a.nT g e)),a.db.s.keptS k (fun g e=>q g (a.nS g e))⟩
  s1:=a.s1.Wo (fun g e=>k.block g (a.s1.lt e) (q g (a.n1 g e)))
  s2:=a.s2.Wo (fun g e=>k.block g (a.s2.lt e) (q g (a.n2 g e)))
  sq:=fun c f=>(a.sq c f).keptS k (fun g e=>q g (a.nq c f g e)) }⟩
theorem yn.rvAt(a:yn y w o D n x t):∃c d e,fX y w o D true c d e:=by
 obtain⟨b,j,l,i,k,f,m,g,p,a⟩:=a;exact⟨_,_,_,a.rv⟩
theorem MX{X:World}{f:List (jM×Hd)}{l:Hd}{u:List fO}{m:Hd}(b:wh y i w x N g f l u m)(j:fZ i x n p z7 (ab n) z6 zb)(H:fX X w o D true (pointer (some ⟨x,0,none⟩)) (slice l.ao f.length l.cap) (slice m.ao u.length m.cap))(K:aa [w,t] i X)(O:w<M)(J:t<M)(A:M<=y.heap.size)(B:M<=x)(v:∀a,p=some ⟨a,0,none⟩->M<=a/\a<i.heap.size)(nS:∀a,z6=some ⟨a,0,none⟩->M<=a/\a<i.heap.size)(G:f.map (·.1)=(List.range (ab n).length).map (sg (ab n) (MG n (ab n))))(k:oK (ab n) f ((List.range (ab n).length).map (mS n (ab n) (Bu n (ab n)))) u (ab n).length):yn X w o D n M X.heap.size:=by
 have z:=K.size;have q:∀a,M<=a->a∉[w,t]:=fun a L I=>by simp at I;omega
 have C:∀a,l.blk=some a->M<=a/\a<X.heap.size:=fun a e=>⟨Sc A (b.f1 a e),R6 (b.o1.lt e) z⟩
 have E:∀a,m.blk=some a->M<=a/\a<X.heap.size:=fun a e=>⟨Sc A (b.f2 a e),R6 (b.o2.lt e) z⟩
 have F:∀c∈f,∀a,c.2.ao=some ⟨a,0,none⟩->M<=a/\a<X.heap.size:=fun c r a e=>⟨Sc A ((b.q c r).2 a e).1,R6 (b.ql c r a e) z⟩
 exact⟨x,p,z7,z6,zb,f,l,u,m,{
  rv:=H
  db:=⟨K.get j.d (q x B),j.t.keptS K (fun a e=>q a (v a e).1),j.s.keptS K (fun a e=>q a (nS a e).1)⟩
  ps:=G
  fin:=k
  s1:=b.o1.Wo (fun a e=>K.block a (b.o1.lt e) (q a (C a e).1))
  s2:=b.o2.Wo (fun a e=>K.block a (b.o2.lt e) (q a (E a e).1))
  sq:=fun c r=>(b.q c r).1.keptS K (fun a e=>q a (F c r a e).1)
  nb:=⟨B,R6 (ae j.d) z⟩
  nT:=fun a e=>⟨(v a e).1,R6 (v a e).2 z⟩
  nS:=fun a e=>⟨(nS a e).1,R6 (nS a e).2 z⟩
  n1:=C
  n2:=E
  nq:=F }⟩
def Rh(fs:Fs)(k v:Nat)(h:Hd)(f:oL)(c:Int)(w:World)(e:Ending)(w':World):Prop :=
 e=returned (tuple #[ij f,int i64 c])/\((c=0->∃lo,w.heap.size<=lo/\yn w' v fs h (cZ fs k).1 lo w'.heap.size)/\(c≠0->∃p2 p3 p4,fX w' v fs h false p2 p3 p4))/\aa [v] w w'
theorem fX.keptV{on':Bool}(a:fX y w o D z5 N g c)(k:aa [w] y i)(d:i.heap[w]?=some (.cells #[slice D.ao o.length D.cap,bool on',z2,y0,y5] 85)):fX i w o D on' z2 y0 y5 :=
 ⟨d,a.own.Wo (fun q b=>k.block q (a.own.lt b) (by simp;intro e;rw[e]at b;exact a.far b)),a.far,a.le⟩
theorem tq(h:∀j,j<o.length->(ak o j).size<=1024)(k:Nat):(ak o k).size<=1024:=by
 by_cases a:k<o.length
 ·exact h k a
 ·unfold ak;rw[RT,SG (by omega)];show(0:Nat)<=1024;omega
theorem fX.Ws(a:fX y w o D z5 N g c)(e:w≠x)(b:∀q,D.blk=some q->q≠x)(i:Nat)(u:Value):fX (y.setCell ⟨x,i,none⟩ u) w o D z5 N g c :=
 ⟨((aa.refl [x] y).setCell (R4 (by simp)) _).get a.d (by simp;exact e),a.own.Ws b i u,a.far,a.le⟩
theorem vU{d u0 u1 u2 u3:Value}(e:i.heap[w]?=some (.cells #[z2,y0,y5,d] 87))(j:fX i x o D z5 N g c)(m:x<w)(k:∀q,D.blk=some q->q<w)(f:aa [x] y i)(b:y.heap.size<=w) :
  ((((i.setCell ⟨w,0,none⟩ u0).setCell ⟨w,1,none⟩ u1).setCell ⟨w,2,none⟩ u2).setCell ⟨w,3,none⟩ u3).heap[w]?=some (.cells #[u0,u1,u2,u3] 87)/\fX ((((i.setCell ⟨w,0,none⟩ u0).setCell ⟨w,1,none⟩ u1).setCell ⟨w,2,none⟩ u2).setCell ⟨w,3,none⟩ u3) x o D z5 N g c/\aa [x] y ((((i.setCell ⟨w,0,none⟩ u0).setCell ⟨w,1,none⟩ u1).setCell ⟨w,2,none⟩ u2).setCell ⟨w,3,none⟩ u3):=by
 refine⟨ah (ah (ah (ah e 0 u0) 1 u1) 2 u2) 3 u3,?_,(((f.setCell (RZ b) _).setCell (RZ b) _).setCell (RZ b) _).setCell (RZ b) _⟩;have a:∀q,D.blk=some q->q≠w:=fun q l=>by have:=k q l;omega
 exact(((j.Ws (by omega) a _ _).Ws (by omega) a _ _).Ws (by omega) a _ _).Ws (by omega) a _ _
theorem nh(h:y.heap[w]?=some (.cells #[N,g,c,z2] 87)) :
  (y.cell? ⟨w,0,none⟩=some N/\y.cell? ⟨w,1,none⟩=some g/\y.cell? ⟨w,2,none⟩=some c/\y.cell? ⟨w,3,none⟩=some z2)/\(y.frozen? ⟨w,0,none⟩=false/\y.frozen? ⟨w,1,none⟩=false/\y.frozen? ⟨w,2,none⟩=false/\y.frozen? ⟨w,3,none⟩=false)/\w<y.heap.size:=by
 refine⟨⟨?_,?_,?_,?_⟩,⟨am h 0,am h 1,am h 2,am h 3⟩,ae h⟩
 all_goals (rw[aj h];rfl)
theorem wP(c:H.length<=4)(d:∀j,j<H.length->(ak H j).size<=1024)(m:l<H.length)(f:((za (cZ H l).1 (ab (cZ H l).1)).rule==0)=true)(b:((cZ H l).2.rule==0)=true):gn H l=cM/\∀q,q<(cZ H l).1.length->a9 (cZ H l).1 (ab (cZ H l).1) q=0:=by
 obtain⟨e,g⟩:=wO H l c d m;have n:(gn H l).1=0:=by
  unfold gn;rw[RU (by rw[f];simp)];exact Vc b
 refine⟨?_,(g (by rw[e,n];rfl)).1.u⟩;have k:(cZ H l).2=gB:=by
  unfold cZ at b ⊢;split
  ·next a =>
   rw[RY a]at b;unfold eO at a;cases i:(pI H l).getLast? with
   | none=>rw[i]at a;cases a
   | some t =>
    rw[i]at a b;simp only[Option.getD_some]at b;simp only at a;rw[b]at a;cases a
  ·rfl
 unfold gn;rw[RU (by rw[f];simp),k];rfl
set_option maxRecDepth 100000
theorem yL(h:Hd)(t:Bool)(u x y:Value)(n:ByteArray)(w:World)(f:fX w v H h t u x y)(J:bM H n<0) :
  Calls prog 38 #[pointer (some ⟨v,0,none⟩),string n] w fun e z=>e=returned (tuple #[ij cM,int i64 5])/\aa [] w z:=by
 obtain⟨W,j⟩:∃W,Hid (w.alloc (.cells #[int i64 0,string ⟨#[]⟩,int i64 0,int i64 0] 87)=W):=⟨_,rfl⟩
 have b:Hid _:=fN j.out;have k:Hid _:=fY j.out;have a:Hid _:=f.Wj b.out;have i:Hid _:=(mX H h.ao h.cap n W (by have:=f.le;omega) a.out.own.srcFi);have K:W.cell? ⟨v,0,none⟩=some (slice h.ao H.length h.cap):=by rw[aj a.out.d];rfl
 have L:=ae a.out.d;obtain⟨⟨E,F,G,I⟩,⟨A,B,C,D⟩,N⟩:=nh k.out;have c:Hid (v<w.heap.size/\∀q,h.blk=some q->q<w.heap.size):=⟨ae f.d,fun q s=>f.own.lt s⟩;clear f;go_enter func38,ntmps38;go_upto_region 1 with fail
 rw[j.out];go_wp2_with (go_at_call 36;refine R0 i.out ?_;rintro e M ⟨rfl,g⟩;rw[g];clear g);obtain⟨l,-,-⟩:=vU (u0:=int i64 0) (u1:=string ⟨#[]⟩) (u2:=int i64 0) (u3:=int i64 0) k.out a.out c.out.1 c.out.2 (oX b.out) (RV _);obtain⟨⟨m,o,p,r⟩,-,-⟩:=nh l;exact Sa (v:=tuple #[agg #[int i64 0,string ⟨#[]⟩,int i64 0,int i64 0],int i64 5]) (by simp[results,results38,go_sem,m,o,p,r]) rfl ⟨rfl,(((b.out.setCell (RZ (RV _)) _).setCell (RZ (RV _)) _).setCell (RZ (RV _)) _).setCell (RZ (RV _)) _⟩
theorem Bo(b:Fs)(h:Hd)(on:Bool)(p2 p3 p4:Value)(n:ByteArray)(w:World)(hR:fX w v b h on p2 p3 p4)(hf:bM b n=(l:Int))(hk:l<b.length)(Y:∀j,j<b.length->(ak b j).size<=1024) :
  Calls prog 38 #[pointer (some ⟨v,0,none⟩),string n] w fun e w'=>Rh b l v h (gn b l) (if((gn b l).1==0)=true then 0 else 6) w e w':=by
 unfold Rh;have az:=hR.le;obtain⟨cb,k⟩:=h;obtain⟨gf,ax,cf,-⟩:=hR.own.srcFi.2 l hk;replace ax:cb=some ⟨gf,0,none⟩:=ax;subst ax;obtain⟨W,HW⟩:∃W,Hid (w.alloc (.cells #[int i64 0,string ⟨#[]⟩,int i64 0,int i64 0] 87)=W):=⟨_,rfl⟩
 have bc:Hid _:=fN HW.out;have BF:Hid _:=fY HW.out;have y:Hid _:=hR.Wj bc.out;have a7:Hid _:=(mX b (some ⟨gf,0,none⟩) k n W (by omega) y.out.own.srcFi);rw[hf]at a7;have v0:W.cell? ⟨v,0,none⟩=some (slice (some ⟨gf,0,none⟩) b.length k):=by rw[aj y.out.d];rfl
 have v1:W.cell? ⟨v,1,none⟩=some (bool on):=by rw[aj y.out.d];rfl
 have e1:=am y.out.d 1;have vz:=ae y.out.d;have c:Hid (v<w.heap.size/\∀q,(⟨some ⟨gf,0,none⟩,k⟩:Hd).blk=some q->q<w.heap.size):=⟨ae hR.d,fun q hq=>hR.own.lt hq⟩;obtain⟨D,S⟩:∃D,Hid (W.setCell ⟨v,1,none⟩ (bool false)=D):=⟨_,rfl⟩
 have G:Hid (fX D v b ⟨some ⟨gf,0,none⟩,k⟩ false p2 p3 p4):=by show fX _ _ _ _ _ _ _ _;rw[<-S.out];exact y.out.off
 have al:Hid (aa [v] w D):=by show aa _ _ _;rw[<-S.out];exact(oX bc.out).setCell (R4 (by simp)) _
 have a0:Hid (D.heap[w.heap.size]?=some (.cells #[int i64 0,string ⟨#[]⟩,int i64 0,int i64 0] 87)):=by
  show _=_;rw[<-S.out];exact((aa.refl [v] _).setCell (R4 (by simp)) _).get BF.out (by have:=c.out.1;simp;omega)
 have Q:Hid _:=IX b gf k l D az (tq Y) hk G.out.own.srcFi (G.out.own.lt rfl);have ch:D.cell? ⟨v,0,none⟩=some (slice (some ⟨gf,0,none⟩) b.length k):=by rw[aj G.out.d];rfl
 have cj:=ae G.out.d;have R:Hid _:=Cn b l (tq Y);have z:Hid _:=IW b l az (tq Y) hk;have E:Hid _:=wP b l az Y hk;have x:Hid (gn b l=if((za (cZ b l).1 (ab (cZ b l).1)).rule==0)=false then LR (za (cZ b l).1 (ab (cZ b l).1)) else LR (cZ b l).2):=rfl;obtain⟨f,Hf⟩:∃f,Hid (gn b l=f):=⟨_,rfl⟩
 rw[Hf.out]at x E ⊢;obtain⟨cc,V⟩:∃cc,Hid ((if(f.1==0)=true then(0:Int) else 6)=cc):=⟨_,rfl⟩
 rw[V.out];obtain⟨⟨T,t⟩,b6⟩:∃Tt,Hid (cZ b l=Tt):=⟨_,rfl⟩
 rw[b6.out]at Q R z E x ⊢;simp only at Q R z E x ⊢;obtain⟨u,Hu⟩:∃u,Hid (za T (ab T)=u):=⟨_,rfl⟩
 rw[Hu.out]at E x;have cl:¬(l:Int)<0:=by omega
 have bk:Hid (∀i,(tS T i).size<=1073741824):=fun i=>by
  unfold tS;rw[RT];cases e:T[i]? with
  | none=>show(0:Nat)<=_;omega
  | some t=>have:=(R.out t (TG e)).1;show t.s.size<=_;omega
 clear hR cf hf;go_enter func38,ntmps38;go_upto_region 1 with fail
 rw[HW.out];go_upto_region 5 with (go_at_call 36;refine R0 a7.out ?_;rintro e w9 ⟨rfl,bo⟩;rw[bo];clear bo)
 rw[S.out];clear v0 v1 e1 vz;obtain⟨ts,tr,tf,tl,tc⟩:=t;obtain⟨us,ur,uf,ul,uc⟩:=u;simp only at Q;go_upto_region 6 with (go_at_call 55;refine R0 Q.out ?_;rintro e w7 ⟨aT,cT,rfl,sT,k7,n7⟩)
 obtain⟨M,K⟩:∃M,Hid (w7.alloc (.cells #[int i64 tr,string tf,int i64 tl,int i64 tc] 87)=M):=⟨_,rfl⟩
 have ba:Hid (aa [] D M):=by show aa _ _ _;rw[<-K.out];exact k7.alloc _
 have bs:Hid _:=fY K.out;have U:Hid (w7.heap.size<=M.heap.size/\D.heap.size<=M.heap.size):=⟨by rw[<-K.out];simp,ba.out.size⟩;have bd:Hid _:=n7;have b5:Hid _:=(Mv T aT cT M (lF.Wj sT (by rw[<-K.out];exact(aa.refl [] _).alloc _)) (by have:=z.out;omega) bk.out);rw[K.out];clear sT k7 ch cj n7;go_upto_region 7 with (go_at_call 56;refine R0 b5.out ?_;rintro e w9 ⟨rfl,aS,cS,d9,k9,n9⟩)
 have ai:Hid _:=(wU M.heap.size T aT cT (ab T) aS cS w9 d9 (by have:=z.out;omega) (Ps T (by have:=z.out;omega)) bk.out);rw[Hu.out]at ai;simp only at ai;have bf:Hid (∀g,aT=some ⟨g,0,none⟩->D.heap.size<=g/\g<w9.heap.size):=fun g N=>⟨(bd.out g N).1,R6 (bd.out g N).2 (Sc U.out.1 k9.size)⟩
 have be:Hid (∀g,aS=some ⟨g,0,none⟩->D.heap.size<=g/\g<w9.heap.size):=fun g N=>⟨Sc U.out.2 (n9 g N).1,(n9 g N).2⟩
 have b2:Hid _:=ba.out.trans k9;have bv:Hid _:=(k9.get bs.out (by simp));have ca:Hid _:=k9.size;have bx:Hid _:=d9;clear d9 k9 n9;go_upto_region 8 with (go_at_call 57;refine R0 ai.out ?_;rintro e ck ⟨rfl,br⟩)
 obtain⟨A,H⟩:∃A,Hid (ck.alloc (.cells #[int i64 ur,string uf,int i64 ul,int i64 uc] 87)=A):=⟨_,rfl⟩
 have a2:Hid _:=fY H.out;have r:Hid (aa [] w9 A):=by show aa _ _ _;rw[<-H.out];exact br.alloc _
 have F:Hid _:=b2.out.trans r.out;have a5:Hid _:=fZ.Wj bx.out r.out;have bw:Hid _:=(r.out.get bv.out (by simp));have a:Hid _:=G.out.Wj F.out;have P:Hid _:=(F.out.get a0.out (by simp));have an:Hid _:=al.out.trans (oX F.out);rw[H.out];clear br;obtain⟨⟨u0,u1,u2,u3⟩,-,uz⟩:=nh a2.out;obtain⟨⟨t0,t1,t2,t3⟩,-,tz⟩:=nh bw.out;obtain⟨⟨g0,g1,g2,g3⟩,⟨f0,f1,f2,f3⟩,wz⟩:=nh P.out;cases hu:(ur==0)
 ·have HX:Hid (f=(ur,⟨uf,ul,uc⟩)):=by show _=_;rw[x.out];exact RY hu
  have HC:Hid (cc=6):=by show _=_;rw[<-V.out,HX.out];exact RU (fun q=>by have q':(ur==0)=true:=q;rw[hu]at q';cases q')
  go_wp2;obtain⟨B1,R1,K1⟩:=vU (u0:=int i64 ur) (u1:=string uf) (u2:=int i64 ul) (u3:=int i64 uc) P.out a.out c.out.1 c.out.2 an.out (RV _);obtain⟨⟨c0,c1,c2,c3⟩,-,-⟩:=nh B1;exact Sa (v:=tuple #[agg #[int i64 ur,string uf,int i64 ul,int i64 uc],int i64 6]) (by simp[results,results38,go_sem,c0,c1,c2,c3]) rfl (by rw[HC.out,HX.out];exact⟨rfl,⟨(fun q=>by cases q),fun _=>⟨_,_,_,R1⟩⟩,K1⟩)
 ·cases ht:(tr==0)
  ·have HX:Hid (f=(tr,⟨tf,tl,tc⟩)):=(by show _=_;rw[x.out];exact RU (fun q=>by have q':(ur==0)=false:=q;rw[hu]at q';cases q'));have HC:Hid (cc=6):=(by show _=_;rw[<-V.out,HX.out];exact RU (fun q=>by have q':(tr==0)=true:=q;rw[ht]at q';cases q'));go_wp2;obtain⟨B1,R1,K1⟩:=vU (u0:=int i64 tr) (u1:=string tf) (u2:=int i64 tl) (u3:=int i64 tc) P.out a.out c.out.1 c.out.2 an.out (RV _);obtain⟨⟨c0,c1,c2,c3⟩,-,-⟩:=nh B1;exact Sa (v:=tuple #[agg #[int i64 tr,string tf,int i64 tl,int i64 tc],int i64 6]) (by simp[results,results38,go_sem,c0,c1,c2,c3]) rfl (by rw[HC.out,HX.out];exact⟨rfl,⟨(fun q=>by cases q),fun _=>⟨_,_,_,R1⟩⟩,K1⟩)
  ·obtain⟨bl,af⟩:=E.out hu ht;have a1:Hid _:=af;have HX:Hid _:=bl;have HC:Hid (cc=0):=(by show _=_;rw[<-V.out,HX.out];rfl);clear bl af;have x2:A.cell? ⟨v,2,none⟩=some p2:=by rw[aj a.out.d];rfl
   have y2:=am a.out.d 2;have vz:=ae a.out.d;have X:=ah a.out.d 2 (pointer (some ⟨M.heap.size,0,none⟩));obtain⟨B,I⟩:∃B,Hid (A.setCell ⟨v,2,none⟩ (pointer (some ⟨M.heap.size,0,none⟩))=B):=⟨_,rfl⟩
   rw[I.out]at X;have m:Hid (aa [v] A B):=by show aa _ _ _;rw[<-I.out];exact(aa.refl [v] _).setCell (R4 (by simp)) _
   have ac:Hid _:=fZ.off a5.out a.out.d m.out;have a3:Hid _:=(m.out.get P.out (by have:=c.out.1;simp;omega));have ad:Hid _:=fX.keptV (on':=false) a.out m.out X;have bT:Hid _:=EI v M.heap.size T aT cT aS cS _ _ _ _ _ _ B X ac.out z.out R.out a1.out;clear X;(go_upto_region 13 with fail);rw[I.out];clear x2 y2 vz u0 u1 u2 u3 uz t0 t1 t2 t3 tz g0 g1 g2 g3 f0 f1 f2 f3 wz;(go_upto_region 14 with (go_at_call 58;refine R0 bT.out ?_;rintro e O ⟨PS,j1,j2,RS,rfl,bp,ag,jw⟩));have a4:Hid _:=(jw.kept.get a3.out (by have:=c.out.1;simp;omega));have C:=jw.d;have L:=jw.kept;have bg:Hid _:=fX.keptV (on':=false) ad.out L C;have b3:Hid _:=(an.out.trans m.out).trans L;have b1:Hid _:=jw;have b0:Hid _:=bp;have bz:Hid _:=ag;have a6:Hid _:=fZ.off ac.out ad.out.d L;have ao:Hid (w9.heap.size<=B.heap.size/\B.heap.size<=O.heap.size/\M.heap.size<=w9.heap.size):=⟨Sc r.out.size m.out.size,L.size,ca.out⟩;have x1:O.cell? ⟨v,1,none⟩=some (bool false):=(by rw[aj C];rfl);have y1:=am C 1;have vz:=ae C;have ar:=ah C 1 (bool true);obtain⟨ap,J⟩:∃ap,Hid (O.setCell ⟨v,1,none⟩ (bool true)=ap):=⟨_,rfl⟩
   rw[J.out]at ar;have o:Hid (aa [v] O ap):=by show aa _ _ _;rw[<-J.out];exact(aa.refl [v] _).setCell (R4 (by simp)) _
   have bj:Hid _:=fX.keptV (on':=true) bg.out o.out ar;have Z:Hid _:=(o.out.get a4.out (by have:=c.out.1;simp;omega));have b4:Hid _:=b3.out.trans o.out;clear jw bp ag C L ar;(go_upto_region 15 with fail);rw[J.out];clear x1 y1 vz;obtain⟨⟨g0,g1,g2,g3⟩,⟨f0,f1,f2,f3⟩,wz⟩:=nh Z.out;go_wp2;obtain⟨B1,R1,K1⟩:=vU (u0:=int i64 0) (u1:=string ⟨#[]⟩) (u2:=int i64 0) (u3:=int i64 0) Z.out bj.out c.out.1 c.out.2 b4.out (RV _);have KX:aa [v,w.heap.size] O _:=((((o.out.mono (S':=[v,w.heap.size]) (fun q hq _=>by rw[Se.1 hq];exact Sz)).setCell (p:=⟨w.heap.size,0,none⟩) (R4 (by simp)) (int i64 0)).setCell (p:=⟨w.heap.size,1,none⟩) (R4 (by simp)) (string ⟨#[]⟩)).setCell (p:=⟨w.heap.size,2,none⟩) (R4 (by simp)) (int i64 0)).setCell (p:=⟨w.heap.size,3,none⟩) (R4 (by simp)) (int i64 0);obtain⟨⟨c0,c1,c2,c3⟩,-,-⟩:=nh B1;exact Sa (v:=tuple #[agg #[int i64 0,string ⟨#[]⟩,int i64 0,int i64 0],int i64 0]) (by simp[results,results38,go_sem,c0,c1,c2,c3]) rfl (by rw[HC.out,HX.out];exact⟨rfl,⟨fun _=>⟨D.heap.size,al.out.size,MX b1.out a6.out R1 KX (R6 c.out.1 al.out.size) (ae a0.out) (by have:=U.out;have:=ao.out;omega) U.out.2 (fun g N=>⟨(bf.out g N).1,by have:=(bf.out g N).2;have:=ao.out;omega⟩) (fun g N=>⟨(be.out g N).1,by have:=(be.out g N).2;have:=ao.out;omega⟩) b0.out bz.out⟩,fun q=>absurd rfl q⟩,K1⟩)
end Go.Proofs.YtnbhnocdhbcbcaaGreat

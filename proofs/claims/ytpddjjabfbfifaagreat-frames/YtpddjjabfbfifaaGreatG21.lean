import Derived.Test.YtpddjjabfbfifaaGreatG18
import Derived.Test.YtpddjjabfbfifaaGreatG20
namespace Go.Proofs.YtpddjjabfbfifaaGreat
open Go.RowKit Tryz
set_option maxRecDepth 100000
set_option maxHeartbeats 40000000
variable{v z4:ByteArray}{w T g M y5 y6:Nat}{z1:List ByteArray}{S:List Tk}{z7:Tk}{d:List Sm}{f y:World}{z0 y0:Option Addr}{zb:List Nat}{i o D z5 y7 y8:Value}{x:Fs}{k N:Hd}{z2:Bool}(z6:List Tk)(L:Nat)(H:Fs)(I a:ByteArray)(n b:Nat)(l:List Tk)(z3:Nat->List Bool->List Tk->List Tk×List Bool)
theorem iW{l m:List UInt8}(h:(v.toList==l)=true):(v.toList==m)=(l==m):=by
 have:v.toList=l:=by simpa using h
 rw[this]
section
variable {T:List Tk} {S:List Sm} {f:Nat}
structure vE(T:List Tk)(S:List Sm)(j:Nat):Prop where
 le:(au S j).h<=(au S j).z-1
 zt:(au S j).z<=T.length
 pos:0<(au S j).z
 dot:((tS T ((au S j).z-1)).toList == [36,46])=true
 cl:ip (au S j).k (fa T (au S j).h ((au S j).z-1))=0
 w:∀q,(au S j).h<=q->q<(au S j).z-1->lW T S (au S j).k (tS T q) j (fa T (au S j).h q)=0/\bS (tS T q)=false
theorem oQ(p:Dt T T.length S f)(b:∀q,q<T.length->bh T S q=0)(j:Nat)(h:j<S.length)(r:bS (au S j).k=false):vE T S j:=by
 have u:=GT p j h;obtain⟨P,m⟩:=p.s j h
 have c:(au S j).h<=(au S j).z-1->(au S j).a<(au S j).h->vE T S j:=fun i C=>by
  have y:=P.lt;have t:=b ((au S j).z-1) (by omega);rw[u ((au S j).z-1) (by omega) (by omega),QT (by omega),QT (by omega)]at t;obtain⟨w,E⟩:=wU P.e t;refine⟨i,m,by omega,w,E,fun q G D=>?_⟩;have Q:=b q (by omega);rw[u q (by omega) (by omega),QT (by omega),QT (by omega)]at Q;exact⟨Q,P.n q (by omega) D⟩
 have d:=P.k;have F:=P.lt;unfold ew at d
 by_cases g:(ii (tS T (au S j).a) ⟨#[36]⟩||decide (T.length<=(au S j).a+1))=true
 ·rw[QW g]at d
  have l:(au S j).k=tS T (au S j).a:=congrArg Prod.fst d;have v:(au S j).h=(au S j).a+1:=congrArg Prod.snd d;refine c ?_ (by omega)
  by_cases A:(au S j).z-1=(au S j).a
  ·have:=P.e
   rw[A,<-l,r]at this
   cases this
  ·omega
 ·rw[QT g]at d
  have l:(au S j).k=tS T ((au S j).a+1):=congrArg Prod.fst d;have v:(au S j).h=(au S j).a+2:=congrArg Prod.snd d
  have o:ii (tS T (au S j).a) ⟨#[36]⟩=false:=by
   cases e:ii (tS T (au S j).a) ⟨#[36]⟩
   ·rfl
   ·rw[e]at g;exact absurd rfl g
  refine c ?_ (by omega)
  have B:(au S j).z-1≠(au S j).a:=fun e=>by
   have:=(kM P.e).1;rw[e,o]at this;cases this
  have x:(au S j).z-1≠(au S j).a+1:=fun e=>by
   have:=P.e;rw[e,<-l,r]at this;cases this
  omega
theorem se(a:L+b<n)(c:n<=z6.length):(fa z6 L n).getD b ⟨#[]⟩=tS z6 (L+b):=by
 unfold fa tS;rw[QQ,Rq,Tj,QW (by omega),SV,QQ];rw[QP (by omega)];rfl
theorem pF(a:n<=b)(c:b<=z6.length):(fa z6 n b).length=b-n:=by
 unfold fa;rw[Ri,RQ,RT];omega
theorem xj(P:vE T S w):bu T (au S w).h=(fa T (au S w).h ((au S w).z-1)).takeWhile kB:=by
 have g:=P.zt;have b:=P.pos;have c:=P.le;unfold bu
 have e:T.drop (au S w).h=(T.drop (au S w).h).take ((au S w).z-1-(au S w).h)++(T.getD ((au S w).z-1) jf) :: T.drop (au S w).z:=by
  conv=>lhs;rw[<-Ul ((au S w).z-1-(au S w).h) (T.drop (au S w).h)]
  rw[List.drop_drop,show(au S w).h+((au S w).z-1-(au S w).h)=(au S w).z-1 by omega,Ge T ((au S w).z-1) (by omega),show(au S w).z-1+1=(au S w).z by omega]
 rw[e,show ∀(L:List Tk) (t:Tk) (M:List Tk),L++t :: M=(L++[t])++M from fun L t M=>by simp,yk]
 ·rw[vO _ _ (fun u i=>?_) P.dot]
  ·rfl
  ·obtain⟨q,a,d⟩:=R0 i
   rw[RQ,RT]at a;have:=(P.w ((au S w).h+q) (by omega) (by omega)).2;unfold bS at this;simp only[Bool.or_eq_false_iff]at this
   have f:u.s=tS T ((au S w).h+q):=by
    rw[<-d,List.getElem_take,TI];unfold tS;rw[QQ,QP (by omega)];rfl
   rw[f];exact this.1.1
 ·exact⟨T.getD ((au S w).z-1) jf,by simp,tA P.dot⟩
theorem qz(P:vE T S w):cU T (au S w).h:=⟨(au S w).z-1,P.le,by have:=P.zt;have:=P.pos;omega,tA P.dot⟩
theorem vu(h:lW T S v z4 w z1=0)(a:(z4.toList == [36,61])=true):(v.toList == [36,112])=true/\aJ z1 ⟨#[36,61]⟩=false/\z1.length≠0:=by
 unfold lW at h;rw[iW a (m:=[36,46]),QT (by decide),a,Sv]at h
 cases b:(v.toList == [36,112])
 ·rw[b,TQ,QT (by simp),QW (by rw[oD a];decide +kernel)]at h;cases h
 ·cases d:aJ z1 ⟨#[36,61]⟩
  ·rw[b,d]at h
   by_cases c:z1.length=0
   ·rw[QW (by rfl),QW c]at h;cases h
   ·exact⟨rfl,rfl,c⟩
  ·rw[b,d,QT (by decide),QW (by rw[oD a];decide +kernel)]at h;cases h
end
section
variable {T:List Tk} {S:List Sm} {f:Nat}
theorem zG:fa z6 b b=[]:=by unfold fa;rw[RY];simp
theorem vx(P:vE T S w):0<(fa T (au S w).h ((au S w).z-1)).length/\(((au S w).k.toList == [36,102])=true->1<(fa T (au S w).h ((au S w).z-1)).length):=by
 have a:=P.cl;unfold ip at a
 split at a
 ·cases a
 ·next e =>
  split at a
  ·cases a
  ·next d =>
   refine⟨by omega,fun c=>?_⟩;have:¬(fa T (au S w).h ((au S w).z-1)).length<2:=fun b=>d (by rw[c];simp[b])
   omega
theorem zF(d:w<=T)(a:T<=T.length)(f:aJ (fa T w T) v=true):∃q,w<=q/\q<T/\tS T q=v:=by
 unfold aJ at f;obtain⟨y,h,e⟩:=RC.1 f;obtain⟨q,b,g⟩:=R0 h;rw[pF T w T d a]at b;refine⟨w+q,by omega,by omega,?_⟩;have c:=se T w T q (by omega) a;rw[QQ,QP (by rw[pF T w T d a];exact b)]at c;have i:(fa T w T)[q]=tS T (w+q):=c;rw[<-i,g];have:y.toList=v.toList:=by simpa using e
 apply U4
 apply Un.1
 rw[<-RZ,<-RZ,this]
theorem ut(P:vE T S w)(b:((au S w).k.toList == [36,112])=false):bu T (au S w).h=fa T (au S w).h ((au S w).z-1):=by
 rw[xj P];refine vp _ ?_
 cases e:aJ (fa T (au S w).h ((au S w).z-1)) ⟨#[36,61]⟩
 ·rfl
 ·have i:=P.zt
  have a:=P.pos;obtain⟨q,f,g,c⟩:=zF P.le (by omega) e;have d:=(P.w q f g).1;have:=(vu d (by rw[c];decide +kernel)).1;rw[b]at this;cases this
theorem uq(P:vE T S w):((tS T (au S w).h).toList == [36,61])=false/\(au S w).h<(au S w).z-1:=by
 have b:=(vx P).1;have f:=P.zt;have c:=P.pos;rw[pF T _ _ P.le (by omega)]at b;have a:(au S w).h<(au S w).z-1:=by omega
 refine⟨?_,a⟩
 cases e:((tS T (au S w).h).toList == [36,61])
 ·rfl
 ·have d:=(P.w _ (QR _) a).1
  have:=(vu d e).2.2;rw[zG]at this;exact absurd rfl this
theorem zk(P:vE T S w):0<(bu T (au S w).h).length/\(bu T (au S w).h).getD 0 ⟨#[]⟩=tS T (au S w).h:=by
 obtain⟨d,g⟩:=uq P;have f:=P.zt;have a:=se T (au S w).h ((au S w).z-1) 0 (by omega) (by omega);have c:=(vx P).1;rw[xj P];rw[Tg]at a;generalize fa T (au S w).h ((au S w).z-1)=B at *
 cases B with
 | nil=>simp at c
 | cons x B =>
  have e:x=tS T (au S w).h:=a;have b:kB x=true:=by unfold kB;rw[e,d];rfl
  rw[SN b];exact⟨by simp,e⟩
theorem PZ(p:Dt T T.length S f)(b:∀q,q<T.length->bh T S q=0)(n:Nat)(i:n<=S.length):Kk T S n:=fun j g d=>by
 have a:bS (au S j).k=false:=by
  unfold aC aG at d;simp only[Bool.or_eq_true]at d
  rcases d with (h | h) | (h | h) <;> exact fX h (by decide)
 have P:=oQ p b j (by omega) a;refine⟨(zk P).1,fun e=>?_⟩;have c:((au S j).k.toList == [36,112])=false:=by rw[iW e];decide
 show 1<(bu T (au S j).h).length
 rw[ut P c];exact(vx P).2 e
theorem wV(h:lW T S v z4 w z1=0)(a:bS z4=false)(b:(z4.toList == [36,61])=false)(d:aJ z1 ⟨#[36,61]⟩=false):(if((v.toList == [36,99])||(v.toList == [36,118]))=true then jW T S z4 w (v.toList == [36,99]) z1 else jm T S v z4 w z1)=0:=by
 unfold lW at h
 have c:(z4.toList == [36,46])=false:=by
  unfold bS at a;simp only[Bool.or_eq_false_iff]at a;exact a.1.1
 rw[c,b,d,QT (by simp),TQ,QT (by simp)]at h
 split at h
 ·cases h
 ·exact h
theorem MI(P:vE T S w)(c:(aC (au S w).k||aG (au S w).k)=true):eF T S (tS T (au S w).h) w=true:=by
 obtain⟨g,i⟩:=uq P;obtain⟨d,e⟩:=P.w _ (QR _) i;rw[zG]at d;have b:=wV d e g rfl
 have a:(((au S w).k.toList == [36,99])||((au S w).k.toList == [36,118]))=false/\((au S w).k.toList == [36,100])=false:=by
  unfold aC aG at c;simp only[Bool.or_eq_true]at c
  rcases c with (h | h) | (h | h) <;> (rw[iW h,iW h,iW h];decide)
 rw[a.1,QT (by simp)]at b;unfold jm at b;rw[a.2,QT (by simp),QW (by rfl)]at b
 cases f:eF T S (tS T (au S w).h) w
 ·rw[f,QW rfl]at b;cases b
 ·rfl
theorem P0(P:vE T S w)(a:((au S w).k.toList == [36,102])=true):kZ T S (tS T ((au S w).h+1)) w=true/\(bu T (au S w).h).getD 1 ⟨#[]⟩=tS T ((au S w).h+1):=by
 have j:=(vx P).2 a;have p:=P.zt;have i:=P.pos;rw[pF T _ _ P.le (by omega)]at j;have b:((au S w).k.toList == [36,112])=false:=by rw[iW a];decide
 have n:=se T (au S w).h ((au S w).z-1) 1 (by omega) (by omega);refine⟨?_,by rw[ut P b];exact n⟩;obtain⟨d,l⟩:=P.w ((au S w).h+1) (by omega) (by omega)
 have g:((tS T ((au S w).h+1)).toList == [36,61])=false:=by
  cases e:((tS T ((au S w).h+1)).toList == [36,61])
  ·rfl
  ·have:=(vu d e).1
   rw[b]at this;cases this
 have f:fa T (au S w).h ((au S w).h+1)=[tS T (au S w).h]:=by
  have:=Be T (au S w).h (au S w).h (QR _) (by omega);rw[zG]at this;exact this
 have m:aJ (fa T (au S w).h ((au S w).h+1)) ⟨#[36,61]⟩=false:=by
  rw[f,ru];have e:(⟨#[36,61]⟩:ByteArray).toList=[36,61]:=by decide +kernel
  rw[e];exact(uq P).1
 have c:=wV d l g m;rw[iW a,iW a,QT (by decide)]at c;unfold jm at c;rw[f,iW a,QT (by decide),QT (by simp),a,QW rfl,QT (by simp)]at c
 cases o:kZ T S (tS T ((au S w).h+1)) w
 ·rw[o,QW rfl]at c;cases c
 ·rfl
theorem Ct(p:Dt T T.length S f)(l:∀q,q<T.length->bh T S q=0)(hi:w<=S.length)(Z:T<=S.length)(s:eF T S v w=true)(t:kZ T S v T=true):False:=by
 unfold eF jq at s;unfold kZ jq at t;obtain⟨j,r,C⟩:=RC.1 s;obtain⟨m,H,u⟩:=RC.1 t;have r:=Ra.1 r;have H:=Ra.1 H;unfold pG at C u;rw[nR.1,Rg,Rg]at C;rw[nR.2,Rg,Rg]at u;obtain⟨n,F,-⟩:=C;obtain⟨D,K,-⟩:=u
 have c:∀(j:Nat),j<S.length->(((au S j).k.toList == [36,99])=true∨((au S j).k.toList == [36,118])=true)->aJ (bu T (au S j).h) v=true->∃B,jW T S v j ((au S j).k.toList == [36,99]) B=0:=fun j r a I=>by
  have d:bS (au S j).k=false:=by rcases a with h | h <;> exact fX h (by decide)
  have P:=oQ p l j r d;have k:((au S j).k.toList == [36,112])=false:=by rcases a with h | h <;> (rw[iW h];decide)
  rw[ut P k]at I;have hz:=P.zt;have L:=P.pos;obtain⟨q,y,G,e⟩:=zF P.le (by omega) I;obtain⟨N,U⟩:=P.w q y G
  have b:∀q,(au S j).h<=q->q<(au S j).z-1->((tS T q).toList == [36,61])=false:=fun q s t=>by
   cases e:((tS T q).toList == [36,61])
   ·rfl
   ·have:=(vu (P.w q s t).1 e).1
    rw[k]at this;cases this
  have X:aJ (fa T (au S j).h q) ⟨#[36,61]⟩=false:=by
   cases R:aJ (fa T (au S j).h q) ⟨#[36,61]⟩
   ·rfl
   ·obtain⟨W,O,a2,Y⟩:=zF y (by omega) R
    have:=b W O (by omega);rw[Y]at this;exact absurd this (by decide +kernel)
  have J:=wV N U (b q y G) X;rw[QW (by rcases a with h | h <;> rw[h] <;> simp),e]at J;exact⟨_,J⟩
 obtain⟨B1,g⟩:=c j (by omega) (Q1 n) F;obtain⟨B2,i⟩:=c m (by omega) (QV D) K;have o:((au S m).k.toList == [36,99])=false:=by rw[iW D];decide
 rw[n]at g;rw[o]at i;unfold jW at g i
 rcases Nat.lt_trichotomy j m with A | E | x
 ·have V:eF T S v m=true:=by
   unfold eF jq;exact mZ j A (by unfold pG;rw[nR.1,n,F];simp)
  rw[V]at i
  split at i
  ·cases i
  ·simp at i
 ·rw[E,o]at n;cases n
 ·have M:jq T S ⟨#[36,118]⟩ v j false=true:=by
   unfold jq;exact mZ m x (by unfold pG;rw[nR.2,D,K];simp)
  have Q:jC T S v j=true:=by unfold jC;rw[M];simp
  rw[Q]at g
  split at g
  ·cases g
  ·simp at g
theorem Qx(p:Dt T T.length S f)(a:∀q,q<T.length->bh T S q=0)(n:Nat)(B:n<=S.length):OL T S n:=fun r A d=>by
 have P:=oQ p a r (by omega) (by unfold aC at d;rcases RB _ _ ▸ d with h | h <;> exact fX h (by decide));have w:=MI P (by rw[d];rfl);have u:(cI T S r).getD 0 ⟨#[]⟩=tS T (au S r).h:=(zk P).2;rw[u]
 cases e:aJ (gK T S (bW T S r) (bW T S r).length) (tS T (au S r).h)
 ·rfl
 ·exfalso
  unfold aJ at e;obtain⟨y,k,g⟩:=RC.1 e;unfold gK at k;obtain⟨i,l,rfl⟩:=Si.1 k;unfold xO at l;obtain⟨c,b⟩:=RH.1 l;have c:=Ra.1 c;have t:(bW T S r).getD i 0=(bW T S r)[i]:=by rw[QQ,QP c];rfl
  unfold GI at b;rw[t]at b g;have z:=sK T S r (bW T S r)[i] (Rb c);generalize (bW T S r)[i]=j at *;have s:=oQ p a j (by omega) (fX b (by decide));obtain⟨m,o⟩:=P0 s b;have v:cI T S j=bu T (au S j).h:=rfl;rw[v,o]at g
  have x:tS T ((au S j).h+1)=tS T (au S r).h:=by
   have:(tS T ((au S j).h+1)).toList=(tS T (au S r).h).toList:=by simpa using g
   apply U4
   apply Un.1
   rw[<-RZ,<-RZ,this]
  rw[x]at m;exact Ct p a (by omega) (by omega) w m
end
theorem J9(b:l.length<=10000)(a:∀q,q<l.length->bh l (aj l) q=0)(n:Nat)(g:n<=(aj l).length):nK l (aj l) n:=by
 have p:=fw l;have i:(aj l).length<=l.length:=oG l l.length;obtain⟨f,e⟩:=Ao l (by omega) a;have h:nK l (aj l) (aj l).length:=⟨f,by omega,b,fun j d c=>qz (oQ p a j d c),e⟩;exact h.mono g
def FQ(S:List Sm)(a r:Nat):Prop:=r<a/\(aC (au S r).k||aG (au S r).k)=true
structure OK(T:List Tk)(S:List Sm)(a i:Nat)(s:dj):Prop where
 nd:s.need<=10000
 Vm:s.ref=-1∨(s.ref=-2/\s.back<i)∨∃r,FQ S a r/\s.ref=(r:Nat)/\s.need=iD T S (r:Nat)
def mU(T:List Tk)(S:List Sm)(a:Nat)(P:List dj):Prop:=∀i,i<P.length->OK T S a i (bO P i)
section
variable {T:List Tk} {S:List Sm} {a:Nat}
theorem mU.snoc{P:List dj}{s:dj}(h:mU T S a P)(f:OK T S a P.length s):mU T S a (P++[s]):=fun i d=>by
 rw[Q0,Rp,Rs]at d
 by_cases e:i<P.length
 ·have b:bO (P++[s]) i=bO P i:=by unfold bO;rw[QQ,QQ,Q7 e]
  rw[b];exact h i e
 ·have c:i=P.length:=by omega
  have b:bO (P++[s]) i=s:=by unfold bO;rw[c,QQ,Q5 (QR _),RY];rfl
  rw[b,c];exact f
theorem mU.nil:mU T S a []:=fun i b=>by simp at b
theorem Cu(b:a<=10000)(c:w<a):iD T S (w:Nat)<=10000:=by
 unfold iD
 split
 ·omega
 ·split
  ·have:=kj T S (w:Int).toNat
   rw[Sa]at this ⊢;omega
  ·omega
theorem zo(h:eU T S a v=(w:Int)):FQ S a w:=by
 have d:=p9 T S a v;rw[h]at d
 rcases d with e | ⟨q,f,e⟩
 ·omega
 ·have i:w=q:=by omega
  subst i;refine⟨f,?_⟩;unfold eU at h
  split at h
  ·omega
  ·split at h
   ·unfold bE at h
    cases c:(List.range a).find? (qL T S v) with
    | none=>rw[c]at h;simp at h
    | some j =>
     rw[c]at h;have g:j=w:=by have h:(j:Int)=(w:Int):=h;omega
     have b:=Tm c;rw[g]at b;unfold qL at b;rw[Rg]at b
     cases k:(aC (au S w).k||aG (au S w).k)
     ·exfalso
      have:bG T (au S w)=⟨#[]⟩:=by unfold bG;rw[k,QT (by simp)]
      rw[this]at b;exact absurd b.1 (by decide +kernel)
     ·rfl
   ·omega
theorem La(m:a<=10000)(c:Nat)(n:Nat):∀i P,mU T S a P->mU T S a (m9 T S a c n i P).st/\((m9 T S a c n i P).why=0->0<(m9 T S a c n i P).st.length)/\(m9 T S a c n i P).st.length<=P.length+n:=by
 induction n with
 | zero =>
  intro i P b;rw[m9]
  split
  ·exact⟨mU.nil,fun h=>(by cases h),Ro _⟩
  ·exact⟨b,fun _=>(by simp only;omega),(by simp)⟩
 | succ n l =>
  intro i P b;rw[m9]
  split
  ·obtain⟨d,e,f⟩:=l (i+1) _ (b.snoc (s:=⟨-1,0,0,(T.getD i jf).file,(T.getD i jf).line,(T.getD i jf).col⟩) ⟨by show 0<=10000;omega,Q1 rfl⟩)
   exact⟨d,e,by simp at f ⊢;omega⟩
  ·split
   ·exact⟨mU.nil,fun h=>(by cases h),Ro _⟩
   ·next d e =>
    obtain⟨k,g⟩:∃k:Nat,eU T S a (tS T i)=k:=⟨(eU T S a (tS T i)).toNat,by omega⟩
    have j:=zo g;rw[g];obtain⟨d,e,f⟩:=l (i+1) _ (b.snoc (s:=⟨(k:Int),0,iD T S (k:Int),(T.getD i jf).file,(T.getD i jf).line,(T.getD i jf).col⟩) ⟨Cu m j.1,QV (QV ⟨k,j,rfl,rfl⟩)⟩);exact⟨d,e,by simp at f ⊢;omega⟩
theorem Mw(C:a<=10000)(d:List Nat)(n:∀r∈d,FQ S a r)(w:Lt)(L:List Lt):∀P b f g,mU T S a P->(∀t∈b,t<P.length)->(g=true->0<P.length) ->
  mU T S a (nj T S d w L P b f g).st/\((nj T S d w L P b f g).why=0->0<(nj T S d w L P b f g).st.length)/\(nj T S d w L P b f g).st.length<=P.length+L.length:=by
 induction L with
 | nil =>
  intro P b f g o _ _;rw[nj]
  split
  ·exact⟨mU.nil,fun h=>(by cases h),Ro _⟩
  ·split
   ·exact⟨mU.nil,fun h=>(by cases h),Ro _⟩
   ·exact⟨o,fun _=>(by simp only;omega),(by simp)⟩
 | cons l L v =>
  intro P b f g o q A;rw[nj]
  split
  ·obtain⟨j,k,i⟩:=v P b (f++Du l.c) false o q (fun h=>by cases h)
   exact⟨j,k,by simp at i ⊢;omega⟩
  ·split
   ·split
    ·exact⟨mU.nil,fun h=>(by cases h),Ro _⟩
    ·next y =>
     have z:=yS (f++Du l.c) (d.length+b.length);generalize iO (f++Du l.c) (d.length+b.length)=m at *
     have D:OK T S a P.length (rN T S d b m l):=by
      unfold rN
      split
      ·next B =>
       have u:m-1<d.length:=by omega
       have e:d.getD (m-1) 0=d[m-1]:=by rw[QQ,QP u];rfl
       have x:=n d[m-1] (Rb u);rw[e];exact⟨Cu C x.1,QV (QV ⟨_,x,rfl,rfl⟩)⟩
      ·next B =>
       have u:m-d.length-1<b.length:=by omega
       have e:b.getD (m-d.length-1) 0=b[m-d.length-1]:=by rw[QQ,QP u];rfl
       rw[e];exact⟨by show 0<=10000;omega,QV (Q1 ⟨rfl,q _ (Rb u)⟩)⟩
     obtain⟨j,k,i⟩:=v _ b ⟨#[]⟩ true (o.snoc D) (fun t p=>by rw[Q0];have:=q t p;omega) (fun _=>by simp);exact⟨j,k,by simp at i ⊢;omega⟩
   ·split
    ·next y =>
     have E:=A y.2
     obtain⟨j,k,i⟩:=v P (b++[P.length-1]) f false o (fun t p=>by
      rcases Rr.1 p with h | h
      ·exact q t h
      ·rw[Q9.1 h];omega) (fun h=>by cases h)
     exact⟨j,k,by simp at i ⊢;omega⟩
    ·split
     ·obtain⟨j,k,i⟩:=v _ b f false (o.snoc (s:=⟨-1,0,0,l.file,l.line,l.col⟩) ⟨by show 0<=10000;omega,Q1 rfl⟩) (fun t p=>by rw[Q0];have:=q t p;omega) (fun h=>by cases h)
      exact⟨j,k,by simp at i ⊢;omega⟩
     ·exact⟨mU.nil,fun h=>(by cases h),Ro _⟩
theorem NU(q:a<=10000)(p:dC T)(c:Nat)(n:Nat):∀i b,(∀r∈b,FQ S a r)->mU T S a (ve T S a c n i b).st/\((ve T S a c n i b).why=0->0<(ve T S a c n i b).st.length)/\(ve T S a c n i b).st.length<=1024*T.length:=by
 induction n with
 | zero=>intro i b _;rw[ve];exact⟨mU.nil,fun h=>(by cases h),Ro _⟩
 | succ n m =>
  intro i b f;rw[ve]
  split
  ·obtain⟨j,l,g⟩:=Mw (T:=T) q b f (Ez (T.getD c jf)) (eR T (i+1) c) [] [] ⟨#[]⟩ false mU.nil (fun t o=>by cases o) (fun h=>by cases h)
   have:=xg T p (i+1) c;rw[Rs,SJ]at g;exact⟨j,l,by unfold j4;omega⟩
  ·split
   ·exact⟨mU.nil,fun h=>(by cases h),Ro _⟩
   ·split
    ·exact⟨mU.nil,fun h=>(by cases h),Ro _⟩
    ·next j l g =>
     obtain⟨k,e⟩:∃k:Nat,eU T S a (tS T i)=k:=⟨(eU T S a (tS T i)).toNat,by omega⟩
     refine m (i+1) _ (fun r d=>?_)
     rcases Rr.1 d with h | h
     ·exact f r h
     ·rw[Q9.1 h,e,Sa];exact zo e
theorem vV(g:a<=10000)(k:dC T)(m:T.length<=10000)(e b:Nat)(l:b<=T.length):mU T S a (fU T S a e b).st/\((fU T S a e b).why=0->0<(fU T S a e b).st.length)/\(fU T S a e b).st.length<=100000000:=by
 unfold fU
 split
 ·unfold jQ
  obtain⟨c,d,f⟩:=NU (T:=T) (S:=S) g k b (b-(e+2)) (e+2) (bW T S a) (fun r i=>by
   obtain⟨j,-,h⟩:=yG T S a r i;exact⟨j,by rw[h];simp⟩)
  exact⟨c,d,by omega⟩
 ·obtain⟨c,d,f⟩:=La (T:=T) (S:=S) g b (b-(e+1)) (e+1) [] mU.nil
  exact⟨c,d,by simp at f;omega⟩
theorem Ib(s:a<=10000)(m:dC T)(o:T.length<=10000)(e b:Nat)(n:b<=T.length):Kq T S a (fU T S a e b):=by
 obtain⟨g,k,l⟩:=vV (T:=T) (S:=S) s m o e b n;refine⟨l,fun i=>?_,fun h=>⟨k h,fun i d c=>⟨?_⟩⟩⟩
 ·by_cases d:i<(fU T S a e b).st.length
  ·have:=(g i d).nd;omega
  ·have:bO (fU T S a e b).st i=Ql:=by unfold bO;rw[QQ,Rx (by omega)];rfl
   rw[this];show 0<=100000;omega
 ·rcases(g i d).Vm with h | ⟨h,p⟩ | ⟨r,f,q,t⟩
  ·exact absurd h c
  ·exact Q1 ⟨h,p⟩
  ·refine QV ⟨r,f.1,q,f.2,fun j=>?_⟩
   rw[t];unfold iD;rw[QT (by omega),Sa,QW j]
end
def xC(t:Tk):Prop:=t.s.size<=1024/\0<=t.col/\t.col<=10000
theorem zT:dC []:=fun t a=>by cases a
theorem mh{M:List Tk}(h:dC S)(k:dC M):dC (S++M):=fun t a=>by
 rcases Rr.1 a with e | e
 ·exact h t e
 ·exact k t e
theorem lG(h:xC z7):dC [z7]:=fun u a=>by rw[Q9.1 a];exact h
theorem sH(r:Int)(h:xC z7):xC (qO z7 r):=⟨by show(0:Nat)<=1024;omega,h.2⟩
theorem AG(s:ByteArray)(r:Int)(k:Nat)(b:s.size<=1024)(c:k<=1024):xC (me I a s r k):=by
 have:=zL a k;exact⟨b,by show 0<=bm a k;omega,by show bm a k<=10000;omega⟩
theorem Dr(c:dC l)(d:n<=b)(e:b<=1024):dC (je I a n b l):=by
 unfold je
 split
 ·exact c
 ·exact mh c (lG (AG I a _ 0 n (by rw[Tw];omega) (by omega)))
theorem Dp(i:Nat)(c:i<=1024):dC (jd I a i):=by
 induction i with
 | zero=>exact zT
 | succ i b =>
  rw[jd]
  split
  ·exact Dr I a _ i _ (b (by omega)) (oh a i) (by omega)
  ·exact b (by omega)
theorem Kg(b:a.size<=1024):dC (ij I a):=by
 unfold ij
 split
 ·next i h =>
  have c:i<a.size:=Ra.1 (Rz h);exact mh (Dp I a i (by omega)) (lG (AG I a _ 1 i (by show(0:Nat)<=1024;omega) (by omega)))
 ·exact mh (Dr I a _ _ _ (Dp I a _ b) (oh a _) b) (lG (AG I a _ 0 _ (by show(0:Nat)<=1024;omega) b))
theorem wg(h:xC z7)(k:dC S):dC (z7 :: S):=fun u a=>by
 rcases Rj.1 a with e | e
 ·rw[e];exact h
 ·exact k u e
theorem KG(b:Bool)(L:List Tk)(h:dC L):dC (bQ b L):=by
 induction L generalizing b with
 | nil=>cases b <;> exact zT
 | cons t L c =>
  have d:xC t:=h t (Rn ..);have a:dC L:=fun u f=>h u (Rm _ f)
  have e:∀r,xC ⟨⟨#[]⟩,r,t.file,t.line,t.col⟩:=fun r=>⟨by show(0:Nat)<=1024;omega,d.2⟩
  cases b
  ·rw[bQ]
   split
   ·exact c true a
   ·exact wg d (c false a)
  ·rw[bQ]
   split
   ·exact wg d (c true a)
   ·split
    ·exact c false a
    ·split
     ·exact wg (e 3) (c true a)
     ·split
      ·exact lG (e 2)
      ·exact c true a
theorem Jp(f:∀k e c,dC c->dC (z3 k e c).1)(v:Fs)(n:Nat):∀L,L.length<=n->dC L->∀e c,dC c->dC (cv z3 v L e c).1:=by
 induction n with
 | zero =>
  intro L l _ e c d
  cases L with
  | nil=>rw[cv];exact d
  | cons _ _=>simp at l
 | succ n m =>
  intro L l q e c d
  cases L with
  | nil=>rw[cv];exact d
  | cons t r =>
   have o:xC t:=q t (Rn ..);have j:dC r:=fun u p=>q u (Rm _ p)
   have h:r.length<=n:=by simpa using l
   rw[cv.eq_def];simp only
   split
   ·split
    ·exact d
    ·exact mh d (lG (sH 7 o))
   ·split
    ·exact m r h j e _ (mh d (lG o))
    ·split
     ·exact mh d (lG (sH 4 o))
     ·cases r with
      | nil=>exact d
      | cons a r =>
       have s:xC a:=j a (Rn ..)
       cases r with
       | nil=>exact mh d (lG (sH _ s))
       | cons b r =>
        have w:xC b:=j b (Rm _ (Rn ..));have i:dC r:=fun u p=>j u (Rm _ (Rm _ p))
        have g:r.length<=n:=by simp at h;omega
        simp only
        split
        ·exact mh d (lG (sH _ s))
        ·split
         ·exact mh d (lG (sH _ w))
         ·split
          ·exact m r g i e c d
          ·split
           ·exact f _ e c d
           ·exact m r g i _ _ (f _ e c d)
theorem Jt(b:∀k,(ak H k).size<=1024)(n:Nat):∀k c a,dC a->dC (dQ H n k c a).1:=by
 induction n with
 | zero=>intro k c a d;exact d
 | succ n e =>
  intro k c a d;rw[dQ];exact Jp _ e H _ _ (QR _) (KG _ _ (Kg _ _ (b k))) _ _ d
theorem BG(a:∀b,(ak H b).size<=1024):dC (cC H b).1:=by
 have h:dC (pt H b):=Jt H a _ _ _ _ zT;unfold cC
 split
 ·exact fun t c=>h t (TP _ c)
 ·exact h
def zP(T:List Tk)(S:List Sm)(j:Nat):Nat:=(au S j).h+(bu T (au S j).h).length
theorem Qm(p:ByteArray->Bool)(L:List ByteArray)(h:∃x∈L,p x=false):(L.takeWhile p).length<L.length/\p (L.getD (L.takeWhile p).length ⟨#[]⟩)=false/\∀q,q<(L.takeWhile p).length->p (L.getD q ⟨#[]⟩)=true:=by
 induction L with
 | nil=>obtain⟨x,f,-⟩:=h;cases f
 | cons a L g =>
  cases b:p a
  ·rw[List.takeWhile_cons,QT (by rw[b];simp)]
   exact⟨by simp,b,fun q c=>by simp at c⟩
  ·rw[List.takeWhile_cons,QW b]
   obtain⟨k,j,i⟩:=g (by
    obtain⟨x,f,d⟩:=h
    rcases Rj.1 f with e | e
    ·rw[e,b]at d;cases d
    ·exact⟨x,e,d⟩)
   refine⟨by simp;omega,j,fun q c=>?_⟩
   cases q with
   | zero=>exact b
   | succ q=>exact i q (by simpa using c)
theorem Px(P:vE S d w)(m:((au d w).k.toList == [36,112])=true) :
  (au d w).h<=zP S d w/\((tS S (zP S d w)).toList == [36,61])=true/\(∀q,(au d w).h<=q->q<zP S d w->((tS S q).toList == [36,61])=false)/\zP S d w<(au d w).z-1:=by
 have s:=P.zt;have l:=P.pos;have c:=P.le;have a:=P.cl;have j:=pF S (au d w).h ((au d w).z-1) c (by omega)
 have p:aJ (fa S (au d w).h ((au d w).z-1)) ⟨#[36,61]⟩=true:=by
  unfold ip at a
  split at a
  ·cases a
  ·split at a
   ·cases a
   ·cases e:aJ (fa S (au d w).h ((au d w).z-1)) ⟨#[36,61]⟩
    ·rw[m,e,QW (by decide)]at a;cases a
    ·rfl
 obtain⟨y,o,n⟩:=RC.1 p
 have f:∃x∈fa S (au d w).h ((au d w).z-1),kB x=false:=by
  refine⟨y,o,?_⟩;unfold kB;have e:y.toList=(⟨#[36,61]⟩:ByteArray).toList:=by simpa using n
  rw[e];decide +kernel
 obtain⟨i,b,g⟩:=Qm kB _ f;rw[<-xj P]at i b g;rw[j]at i;unfold zP;refine⟨by omega,?_,fun q r t=>?_,by omega⟩
 ·rw[se S _ _ _ (by omega) (by omega)]at b
  unfold kB at b;simpa using b
 ·have:=g (q-(au d w).h) (by omega)
  rw[se S _ _ _ (by omega) (by omega),show(au d w).h+(q-(au d w).h)=q by omega]at this;unfold kB at this;simpa using this
def Qf(T:List Tk)(S:List Sm)(a:Nat):jS:=fU T S a (zP T S a) ((au S a).z-1)
def JJ(T:List Tk)(S:List Sm)(a:Nat):ik:=mR T S a (Qf T S a) (T.getD ((au S a).z-1) jf)
theorem A6.keptS(h:A6 f z0 w d)(k:ab zb f y)(c:∀g,z0=some ⟨g,0,none⟩->g∉zb):A6 y z0 w d:=by
 refine⟨h.1,fun j t n=>?_⟩;obtain⟨g,e,a,m,b,i,l⟩:=h.2 j t n;have q:∀o,y.cell? ⟨g,o,none⟩=f.cell? ⟨g,o,none⟩:=fun o=>Q6 (k.block g a (c g e))
 exact⟨g,e,QX a k.size,by rw[q];exact m,by rw[q];exact b,by rw[q];exact i,by rw[q];exact l⟩
theorem fz.off{p:Option Addr}(h:fz f w S z0 g d y0 M)(u:f.heap[T]?=some (.cells #[.slice p y5 y6,i,o,D,z5] 85 (0,0)))(k:ab [T] f y):fz y w S z0 g d y0 M:=by
 have v:f.cell? ⟨T,0,none⟩=some (.slice p y5 y6):=by rw[aa u];rfl
 refine⟨k.get h.d (fun r=>?_),?_,?_⟩
 ·simp at r
  subst r;have:=h.d.symm.trans u;simp at this
 ·cases n:S with
  | nil=>rw[n]at h;exact⟨h.t.1,fun j t l=>by simp at l⟩
  | cons t L =>
   rw[n]at h;refine h.t.keptS k (fun m e b=>?_);simp at b;subst b;obtain⟨m,c,-,a,-⟩:=h.t.2 0 t rfl;rw[c]at e;cases e;rw[UT]at a;rw[v]at a;cases a
 ·cases q:d with
  | nil=>rw[q]at h;exact⟨h.s.1,fun j t l=>by simp at l⟩
  | cons t L =>
   rw[q]at h;refine h.s.keptS k (fun m e b=>?_);simp at b;subst b;obtain⟨m,c,-,a,-⟩:=h.s.2 0 t rfl;rw[c]at e;cases e;rw[UT]at a;rw[v]at a;cases a
theorem Eo(j:Option Addr)(v:Nat)(f:Option Addr)(x:Nat)(D:Option Addr)(F c:Nat)(C E H:Value)(w:World)(G:w.heap[n]?=some (.cells #[.slice D F c,C,.pointer (some ⟨b,0,none⟩),E,H] 85 (0,0)))(O:fz w b l j v (aj l) f x)(u:l.length<=10000)(A:dC l)(d:∀q,q<l.length->bh l (aj l) q=0) :
  Calls prog 57 #[.pointer (some ⟨n,0,none⟩)] w fun e N=>Kn l (aj l) n b (.slice D F c) C (Qf l (aj l)) (JJ l (aj l)) w e N:=by
 have p:=fw l;have W:(aj l).length<=l.length:=oG l l.length;have s:∀m,ab [n] w m->fz m b l j v (aj l) f x:=fun m k=>O.off G k
 have g:∀a,tY (aj l) a=true->bS (au (aj l) a).k=false:=fun a h=>fX h (by decide)
 refine En n b l j v (aj l) f x _ C E H _ _ w G s (by omega) (J9 l u d _ (QR _)).ok.a ?_ ?_ ?_
 ·intro a o t m y
  have P:=oQ p d a o (g a t);obtain⟨L,I,Q,T⟩:=Px P t;have:=P.pos;have:=P.zt;exact DR b a (zP l (aj l) a) ((au (aj l) a).z-1) l j v _ f x m (s m y) (J9 l u d a (by omega)) o (qz P) A L I Q (by omega) T (by omega) P.dot
 ·intro a o t B m y V
  have P:=oQ p d a o (g a t);have:=P.pos;have:=P.zt;exact AL b a ((au (aj l) a).z-1) l j v _ f x (Qf l (aj l) a) B m (s m y) (J9 l u d a (by omega)) (PZ p d a (by omega)) (Qx p d a (by omega)) o (qz P) ((J9 l u d _ (QR _)).ok.a a o) (by omega) (by omega) V (Ib (by omega) A u _ _ (by omega))
 ·intro a o t
  have P:=oQ p d a o (g a t);have:=P.zt;obtain⟨M,-,J⟩:=vV (T:=l) (S:=aj l) (a:=a) (by omega) A u (zP l (aj l) a) ((au (aj l) a).z-1) (by omega);refine⟨J,fun i R=>?_⟩
  show(bO (fU l (aj l) a (zP l (aj l) a) ((au (aj l) a).z-1)).st i).ref<=(a:Int)
  rcases(M i R).Vm with h | ⟨h,-⟩ | ⟨r,K,U,-⟩
  ·rw[h];omega
  ·rw[h];omega
  ·rw[U];have:=K.1;omega
theorem E0(i:∀k d c,d[k]?=some false->(z3 k d c).1.length+2000*aQ (z3 k d c).2<=c.length+2000*aQ d)(f:Fs)(n:Nat):∀L,L.length<=n->∀d c,(cv z3 f L d c).1.length+2000*aQ (cv z3 f L d c).2<=c.length+L.length+2000*aQ d:=by
 induction n with
 | zero =>
  intro L l d c
  cases L with
  | nil=>rw[cv];simp
  | cons _ _=>simp at l
 | succ n m =>
  intro L l d c
  cases L with
  | nil=>rw[cv];simp
  | cons t r =>
   have h:r.length<=n:=by simpa using l
   rw[cv.eq_def];simp only[List.length_cons]
   split
   ·split
    ·simp only;omega
    ·simp only[List.length_append,List.length_cons,List.length_nil];omega
   ·split
    ·have:=m r h d (c++[t])
     rw[Q0,Rp,Rs]at this;omega
    ·split
     ·simp only[List.length_append,List.length_cons,List.length_nil];omega
     ·cases r with
      | nil=>simp only;omega
      | cons a r =>
       cases r with
       | nil=>simp only[List.length_append,List.length_cons,List.length_nil];omega
       | cons b r =>
        have g:r.length<=n:=by simp at h;omega
        simp only[List.length_cons]
        split
        ·simp only[List.length_append,List.length_cons,List.length_nil];omega
        ·split
         ·simp only[List.length_append,List.length_cons,List.length_nil];omega
         ·split
          ·have:=m r g d c
           omega
          ·next j =>
           have o:d[(bF f a.s).toNat]?=some false:=by
            rw[QQ]at j
            cases e:d[(bF f a.s).toNat]? with
            | none=>rw[e]at j;exact absurd rfl j
            | some x=>rw[e]at j;cases x;rfl;exact absurd rfl j
           have p:=i (bF f a.s).toNat d c o
           split
           ·omega
           ·have:=m r g (z3 (bF f a.s).toNat d c).2 (z3 (bF f a.s).toNat d c).1
            omega
theorem E2(c:∀k,(ak H k).size<=1024)(n:Nat):∀k b a,b[k]?=some false->(dQ H n k b a).1.length+2000*aQ (dQ H n k b a).2<=a.length+2000*aQ b:=by
 induction n with
 | zero=>intro k b a _;rw[dQ];simp
 | succ n e =>
  intro k b a d;rw[dQ];have g:=E0 (dQ H n) e H _ (qV H k) (QR _) (b.set k true) a;have h:=Df H k;have f:=lC b k d;have i:=c k;omega
theorem Ii(d:H.length<=4)(a:∀b,(ak H b).size<=1024)(c:b<H.length):(cC H b).1.length<=10000:=by
 have h:=E2 H a H.length b (List.replicate H.length false) [] (by rw[Sf,QW c]);rw[mP]at h;have e:(pt H b).length<=10000:=by unfold pt;simp at h;omega
 unfold cC
 split
 ·rw[SF];omega
 ·exact e
structure OH(w:World)(v:Nat)(fs:Fs)(h:Hd)(T:List Tk)(lo hi b:Nat)(aT:Option Addr)(cT:Nat)(aS:Option Addr)(cS:Nat)(PS:List (jS×Hd))(h1:Hd)(RS:List ik)(h2:Hd):Prop where
 rv:fB w v fs h true (.pointer (some ⟨b,0,none⟩)) (.slice h1.ao PS.length h1.cap) (.slice h2.ao RS.length h2.cap)
 db:fz w b T aT cT (aj T) aS cS
 ps:PS.map (·.1)=(List.range (aj T).length).map (xM (aj T) (Qf T (aj T)))
 fin:pv (aj T) PS ((List.range (aj T).length).map (oO T (aj T) (JJ T (aj T)))) RS (aj T).length
 s1:aw w h1 (fP PS)
 s2:aw w h2 (fM RS)
 sq:∀x∈PS,cm w x.2.ao 6 kV x.1.st
 nb:lo<=b/\b<hi
 nT:∀g,aT=some ⟨g,0,none⟩->lo<=g/\g<hi
 nS:∀g,aS=some ⟨g,0,none⟩->lo<=g/\g<hi
 n1:∀g,h1.blk=some g->lo<=g/\g<hi
 n2:∀g,h2.blk=some g->lo<=g/\g<hi
 nq:∀x∈PS,∀g,x.2.ao=some ⟨g,0,none⟩->lo<=g/\g<hi
def xF(w:World)(v:Nat)(fs:Fs)(h:Hd)(T:List Tk)(lo hi:Nat):Prop:=∃b aT cT aS cS PS h1 RS h2,OH w v fs h T lo hi b aT cT aS cS PS h1 RS h2
theorem xF.kept(a:xF f w x k S T g)(h:ab zb f y)(n:w∉zb)(u:∀q,k.blk=some q->q∉zb)(l:∀q,T<=q->q<g->q∉zb):xF y w x k S T g:=by
 obtain⟨b,r,p,m,A,o,v,B,z,a⟩:=a;have q:∀c,T<=c/\c<g->c∉zb:=fun c i=>l c i.1 i.2
 exact⟨b,r,p,m,A,o,v,B,z,{ a with
  rv:=a.rv.keptS h n u
  db:=⟨h.get a.db.d (q b a.nb),a.db.t.keptS h (fun c e=>q c (a.nT c e)),a.db.s.keptS h (fun c e=>q c (a.nS c e))⟩
  s1:=a.s1.Vg (fun c e=>h.block c (a.s1.lt e) (q c (a.n1 c e)))
  s2:=a.s2.Vg (fun c e=>h.block c (a.s2.lt e) (q c (a.n2 c e)))
  sq:=fun i j=>(a.sq i j).keptS h (fun c e=>q c (a.nq i j c e)) }⟩
theorem xF.rvAt(a:xF f w x k S T g):∃d e c,fB f w x k true d e c:=by
 obtain⟨b,j,p,l,h,m,n,i,o,a⟩:=a;exact⟨_,_,_,a.rv⟩
theorem Mf{X:World}{h:List (jS×Hd)}{r:List ik}{n:Hd}(b:vD f y w T i o h N r n)(m:fz y T S z0 y5 (aj S) y0 y6)(A:fB X w x k true (.pointer (some ⟨T,0,none⟩)) (.slice N.ao h.length N.cap) (.slice n.ao r.length n.cap))(K:ab [w,g] y X)(G:w<M)(H:g<M)(u:M<=f.heap.size)(v:M<=T)(p:∀a,z0=some ⟨a,0,none⟩->M<=a/\a<y.heap.size)(nS:∀a,y0=some ⟨a,0,none⟩->M<=a/\a<y.heap.size)(C:h.map (·.1)=(List.range (aj S).length).map (xM (aj S) (Qf S (aj S))))(j:pv (aj S) h ((List.range (aj S).length).map (oO S (aj S) (JJ S (aj S)))) r (aj S).length):xF X w x k S M X.heap.size:=by
 have z:=K.size;have q:∀a,M<=a->a∉[w,g]:=fun a I F=>by simp at F;omega
 have E:∀a,N.blk=some a->M<=a/\a<X.heap.size:=fun a e=>⟨Q3 u (b.f1 a e),QX (b.o1.lt e) z⟩
 have D:∀a,n.blk=some a->M<=a/\a<X.heap.size:=fun a e=>⟨Q3 u (b.f2 a e),QX (b.o2.lt e) z⟩
 have B:∀c∈h,∀a,c.2.ao=some ⟨a,0,none⟩->M<=a/\a<X.heap.size:=fun c l a e=>⟨Q3 u ((b.q c l).2 a e).1,QX (b.ql c l a e) z⟩
 exact⟨T,z0,y5,y0,y6,h,N,r,n,{
  rv:=A
  db:=⟨K.get m.d (q T v),m.t.keptS K (fun a e=>q a (p a e).1),m.s.keptS K (fun a e=>q a (nS a e).1)⟩
  ps:=C
  fin:=j
  s1:=b.o1.Vg (fun a e=>K.block a (b.o1.lt e) (q a (E a e).1))
  s2:=b.o2.Vg (fun a e=>K.block a (b.o2.lt e) (q a (D a e).1))
  sq:=fun c l=>(b.q c l).1.keptS K (fun a e=>q a (B c l a e).1)
  nb:=⟨v,QX (ae m.d) z⟩
  nT:=fun a e=>⟨(p a e).1,QX (p a e).2 z⟩
  nS:=fun a e=>⟨(nS a e).1,QX (nS a e).2 z⟩
  n1:=E
  n2:=D
  nq:=B }⟩
def Qu(fs:Fs)(k v:Nat)(h:Hd)(f:pA)(c:Int)(w:World)(e:Ending)(w':World):Prop :=
 e=.returned (.tuple #[gU f,.int .i64 c])/\((c=0->∃lo,w.heap.size<=lo/\xF w' v fs h (cC fs k).1 lo w'.heap.size)/\(c≠0->∃p2 p3 p4,fB w' v fs h false p2 p3 p4))/\ab [v] w w'
theorem fB.keptV{on':Bool}(a:fB f w x k z2 i o D)(d:ab [w] f y)(c:y.heap[w]?=some (.cells #[.slice k.ao x.length k.cap,.bool on',z5,y7,y8] 85 (0,0))):fB y w x k on' z5 y7 y8 :=
 ⟨c,a.own.Vg (fun q b=>d.block q (a.own.lt b) (by simp;intro e;rw[e]at b;exact a.far b)),a.far,a.le⟩
theorem sD(h:∀j,j<x.length->(ak x j).size<=1024)(k:Nat):(ak x k).size<=1024:=by
 by_cases a:k<x.length
 ·exact h k a
 ·unfold ak;rw[QQ,Rx (by omega)];show(0:Nat)<=1024;omega
theorem fB.Vk(a:fB f w x k z2 i o D)(e:w≠T)(c:∀q,k.blk=some q->q≠T)(b:Nat)(u:Value):fB (f.setCell ⟨T,b,none⟩ u) w x k z2 i o D :=
 ⟨((ab.refl [T] f).setCell (Q1 (by simp)) _).get a.d (by simp;exact e),a.own.Vk c b u,a.far,a.le⟩
theorem vo{j u0 u1 u2 u3:Value}(h:y.heap[w]?=some (.cells #[z5,y7,y8,j] 87 (0,0)))(c:fB y T x k z2 i o D)(l:T<w)(g:∀q,k.blk=some q->q<w)(e:ab [T] f y)(b:f.heap.size<=w) :
  ((((y.setCell ⟨w,0,none⟩ u0).setCell ⟨w,1,none⟩ u1).setCell ⟨w,2,none⟩ u2).setCell ⟨w,3,none⟩ u3).heap[w]?=some (.cells #[u0,u1,u2,u3] 87 (0,0))/\fB ((((y.setCell ⟨w,0,none⟩ u0).setCell ⟨w,1,none⟩ u1).setCell ⟨w,2,none⟩ u2).setCell ⟨w,3,none⟩ u3) T x k z2 i o D/\ab [T] f ((((y.setCell ⟨w,0,none⟩ u0).setCell ⟨w,1,none⟩ u1).setCell ⟨w,2,none⟩ u2).setCell ⟨w,3,none⟩ u3):=by
 refine⟨ah (ah (ah (ah h 0 u0) 1 u1) 2 u2) 3 u3,?_,(((e.setCell (QV b) _).setCell (QV b) _).setCell (QV b) _).setCell (QV b) _⟩;have a:∀q,k.blk=some q->q≠w:=fun q d=>by have:=g q d;omega
 exact(((c.Vk (by omega) a _ _).Vk (by omega) a _ _).Vk (by omega) a _ _).Vk (by omega) a _ _
theorem mz(h:f.heap[w]?=some (.cells #[i,o,D,z5] 87 (0,0))) :
  (f.cell? ⟨w,0,none⟩=some i/\f.cell? ⟨w,1,none⟩=some o/\f.cell? ⟨w,2,none⟩=some D/\f.cell? ⟨w,3,none⟩=some z5)/\(f.frozen? ⟨w,0,none⟩=false/\f.frozen? ⟨w,1,none⟩=false/\f.frozen? ⟨w,2,none⟩=false/\f.frozen? ⟨w,3,none⟩=false)/\w<f.heap.size:=by
 refine⟨⟨?_,?_,?_,?_⟩,⟨am h 0,am h 1,am h 2,am h 3⟩,ae h⟩
 all_goals (rw[aa h];rfl)
theorem v8(f:H.length<=4)(d:∀j,j<H.length->(ak H j).size<=1024)(k:b<H.length)(i:((yp (cC H b).1 (aj (cC H b).1)).rule==0)=true)(c:((cC H b).2.rule==0)=true):fE H b=cY/\∀q,q<(cC H b).1.length->bh (cC H b).1 (aj (cC H b).1) q=0:=by
 obtain⟨e,g⟩:=v7 H b f d k
 have m:(fE H b).1=0:=by
  unfold fE;rw[QT (by rw[i];simp)];exact TR c
 refine⟨?_,(g (by rw[e,m];rfl)).1.u⟩
 have l:(cC H b).2=jf:=by
  unfold cC at c ⊢
  split
  ·next a =>
   rw[QW a]at c;unfold eu at a
   cases h:(pt H b).getLast? with
   | none=>rw[h]at a;cases a
   | some t =>
    rw[h]at a c;simp only[Option.getD_some]at c;simp only at a;rw[c]at a
    cases a
  ·rfl
 unfold fE;rw[QT (by rw[i];simp),l];rfl
theorem xZ(h:Hd)(x:Bool)(t r o:Value)(n:ByteArray)(w:World)(g:fB w L H h x t r o)(M:bF H n<0) :
  Calls prog 37 #[.pointer (some ⟨L,0,none⟩),.string n] w fun e s=>e=.returned (.tuple #[gU cY,.int .i64 5])/\ab [] w s:=by
 obtain⟨W,j⟩:∃W,Hid (w.alloc (.cells #[.int .i64 0,.string ⟨#[]⟩,.int .i64 0,.int .i64 0] 87)=W):=⟨_,rfl⟩
 have b:Hid (ab [] w W):=by show ab [] w W;rw[<-j.out];exact(ab.refl [] _).alloc _
 have k:Hid (W.heap[w.heap.size]?=some (.cells #[.int .i64 0,.string ⟨#[]⟩,.int .i64 0,.int .i64 0] 87 (0,0))):=by show _=_;rw[<-j.out];exact QS _ _
 have a:=hI (g.Vb b.out);have i:=hI (mu H h.ao h.cap n W (by have:=g.le;omega) a.out.own.srcFi);have E:W.cell? ⟨L,0,none⟩=some (.slice h.ao H.length h.cap):=by rw[aa a.out.d];rfl
 have N:=ae a.out.d;obtain⟨⟨C,D,B,J⟩,⟨A,K,I,F⟩,G⟩:=mz k.out;have f:Hid (L<w.heap.size/\∀q,h.blk=some q->q<w.heap.size):=⟨ae g.d,fun q v=>g.own.lt v⟩;clear g;go_enter func37,ntmps37
 go_upto_region 1 with fail
 rw[j.out];go_wp2_with (go_at_call 35;refine QU i.out ?_;rintro e z ⟨rfl,c⟩;rw[c];clear c);obtain⟨l,-,-⟩:=vo (u0:=.int .i64 0) (u1:=.string ⟨#[]⟩) (u2:=.int .i64 0) (u3:=.int .i64 0) k.out a.out f.out.1 f.out.2 (oB b.out) (QR _);obtain⟨⟨y,p,u,m⟩,-,-⟩:=mz l;exact QY (v:=.tuple #[.agg #[.int .i64 0,.string ⟨#[]⟩,.int .i64 0,.int .i64 0],.int .i64 5]) (by simp[results,results37,go_sem,y,p,u,m]) rfl ⟨rfl,(((b.out.setCell (QV (QR _)) _).setCell (QV (QR _)) _).setCell (QV (QR _)) _).setCell (QV (QR _)) _⟩
theorem AQ(c:Fs)(h:Hd)(on:Bool)(p2 p3 p4:Value)(bv:ByteArray)(w:World)(hR:fB w n c h on p2 p3 p4)(hf:bF c bv=(b:Int))(hk:b<c.length)(X:∀j,j<c.length->(ak c j).size<=1024) :
  Calls prog 37 #[.pointer (some ⟨n,0,none⟩),.string bv] w fun e w'=>Qu c b n h (fE c b) (if((fE c b).1==0)=true then 0 else 6) w e w':=by
 unfold Qu;have az:=hR.le;obtain⟨bT,l⟩:=h;obtain⟨gf,al,b4,-⟩:=hR.own.srcFi.2 b hk;replace al:bT=some ⟨gf,0,none⟩:=al;subst al;obtain⟨W,HW⟩:∃W,Hid (w.alloc (.cells #[.int .i64 0,.string ⟨#[]⟩,.int .i64 0,.int .i64 0] 87)=W):=⟨_,rfl⟩
 have a6:Hid (ab [] w W):=by show ab [] w W;rw[<-HW.out];exact(ab.refl [] _).alloc _
 have BF:Hid (W.heap[w.heap.size]?=some (.cells #[.int .i64 0,.string ⟨#[]⟩,.int .i64 0,.int .i64 0] 87 (0,0))):=by show _=_;rw[<-HW.out];exact QS _ _
 have B:=hI (hR.Vb a6.out);have bd:=hI (mu c (some ⟨gf,0,none⟩) l bv W (by omega) B.out.own.srcFi);rw[hf]at bd;have v0:W.cell? ⟨n,0,none⟩=some (.slice (some ⟨gf,0,none⟩) c.length l):=by rw[aa B.out.d];rfl
 have v1:W.cell? ⟨n,1,none⟩=some (.bool on):=by rw[aa B.out.d];rfl
 have e1:=am B.out.d 1;have vz:=ae B.out.d;have k:Hid (n<w.heap.size/\∀q,(⟨some ⟨gf,0,none⟩,l⟩:Hd).blk=some q->q<w.heap.size):=⟨ae hR.d,fun q hq=>hR.own.lt hq⟩;obtain⟨D,Q⟩:∃D,Hid (W.setCell ⟨n,1,none⟩ (.bool false)=D):=⟨_,rfl⟩
 have K:Hid (fB D n c ⟨some ⟨gf,0,none⟩,l⟩ false p2 p3 p4):=by show fB _ _ _ _ _ _ _ _;rw[<-Q.out];exact B.out.off
 have ar:Hid (ab [n] w D):=by show ab _ _ _;rw[<-Q.out];exact(oB a6.out).setCell (Q1 (by simp)) _
 have bl:Hid (D.heap[w.heap.size]?=some (.cells #[.int .i64 0,.string ⟨#[]⟩,.int .i64 0,.int .i64 0] 87 (0,0))):=by
  show _=_
  rw[<-Q.out];exact((ab.refl [n] _).setCell (Q1 (by simp)) _).get BF.out (by have:=k.out.1;simp;omega)
 have U:=hI (Ij c gf l b D az (sD X) hk K.out.own.srcFi (K.out.own.lt rfl));have cf:D.cell? ⟨n,0,none⟩=some (.slice (some ⟨gf,0,none⟩) c.length l):=by rw[aa K.out.d];rfl
 have ck:=ae K.out.d;have R:=hI (BG c b (sD X));have x:=hI (Ii c b az (sD X) hk);have G:=hI (v8 c b az X hk);have z:Hid (fE c b=if((yp (cC c b).1 (aj (cC c b).1)).rule==0)=false then Lj (yp (cC c b).1 (aj (cC c b).1)) else Lj (cC c b).2):=rfl;obtain⟨f,Hf⟩:∃f,Hid (fE c b=f):=⟨_,rfl⟩
 rw[Hf.out]at z G ⊢;obtain⟨cc,S⟩:∃cc,Hid ((if(f.1==0)=true then(0:Int) else 6)=cc):=⟨_,rfl⟩
 rw[S.out];obtain⟨⟨T,t⟩,bw⟩:∃Tt,Hid (cC c b=Tt):=⟨_,rfl⟩
 rw[bw.out]at U R x G z ⊢;simp only at U R x G z ⊢;obtain⟨u,Hu⟩:∃u,Hid (yp T (aj T)=u):=⟨_,rfl⟩
 rw[Hu.out]at G z;have co:¬(b:Int)<0:=by omega
 have a1:Hid (∀i,(tS T i).size<=1073741824):=fun i=>by
  unfold tS;rw[QQ]
  cases e:T[i]? with
  | none=>show(0:Nat)<=_;omega
  | some t=>have:=(R.out t (R4 e)).1;show t.s.size<=_;omega
 clear hR b4 hf;go_enter func37,ntmps37
 go_upto_region 1 with fail
 rw[HW.out]
 go_upto_region 5 with (go_at_call 35;refine QU bd.out ?_;rintro e w9 ⟨rfl,a4⟩;rw[a4];clear a4)
 rw[Q.out];clear v0 v1 e1 vz;obtain⟨ts,tr,tf,tl,tc⟩:=t;obtain⟨us,ur,uf,ul,uc⟩:=u;simp only at U
 go_upto_region 6 with (go_at_call 54;refine QU U.out ?_;rintro e w7 ⟨aT,cT,rfl,sT,k7,n7⟩)
 obtain⟨C,N⟩:∃C,Hid (w7.alloc (.cells #[.int .i64 tr,.string tf,.int .i64 tl,.int .i64 tc] 87)=C):=⟨_,rfl⟩
 have a5:Hid (ab [] D C):=by show ab _ _ _;rw[<-N.out];exact k7.alloc _
 have cl:Hid (C.heap[w7.heap.size]?=some (.cells #[.int .i64 tr,.string tf,.int .i64 tl,.int .i64 tc] 87 (0,0))):=by show _=_;rw[<-N.out];exact QS _ _
 have V:Hid (w7.heap.size<=C.heap.size/\D.heap.size<=C.heap.size):=⟨by rw[<-N.out];simp,a5.out.size⟩;have be:=hI n7;have cj:=hI (LJ T aT cT C (lj.Vb sT (by rw[<-N.out];exact(ab.refl [] _).alloc _)) (by have:=x.out;omega) a1.out);rw[N.out];clear sT k7 cf ck n7
 go_upto_region 7 with (go_at_call 55;refine QU cj.out ?_;rintro e w9 ⟨rfl,aS,cS,d9,k9,n9⟩)
 have ax:=hI (we C.heap.size T aT cT (aj T) aS cS w9 d9 (by have:=x.out;omega) (Ot T (by have:=x.out;omega)) a1.out);rw[Hu.out]at ax;simp only at ax;have bo:Hid (∀g,aT=some ⟨g,0,none⟩->D.heap.size<=g/\g<w9.heap.size):=fun g M=>⟨(be.out g M).1,QX (be.out g M).2 (Q3 V.out.1 k9.size)⟩
 have ba:Hid (∀g,aS=some ⟨g,0,none⟩->D.heap.size<=g/\g<w9.heap.size):=fun g M=>⟨Q3 V.out.2 (n9 g M).1,(n9 g M).2⟩
 have b1:=hI (a5.out.trans k9);have b0:=hI (k9.get cl.out (by simp));have ch:=hI k9.size;have b3:=hI d9;clear d9 k9 n9
 go_upto_region 8 with (go_at_call 56;refine QU ax.out ?_;rintro e bk ⟨rfl,bj⟩)
 obtain⟨o,L⟩:∃o,Hid (bk.alloc (.cells #[.int .i64 ur,.string uf,.int .i64 ul,.int .i64 uc] 87)=o):=⟨_,rfl⟩
 have a0:Hid (o.heap[bk.heap.size]?=some (.cells #[.int .i64 ur,.string uf,.int .i64 ul,.int .i64 uc] 87 (0,0))):=by show _=_;rw[<-L.out];exact QS _ _
 have r:Hid (ab [] w9 o):=by show ab _ _ _;rw[<-L.out];exact bj.alloc _
 have H:=hI (b1.out.trans r.out);have bg:=hI (fz.Vb b3.out r.out);have b2:=hI (r.out.get b0.out (by simp));have a:=hI (K.out.Vb H.out);have P:=hI (H.out.get bl.out (by simp));have ap:=hI (ar.out.trans (oB H.out));rw[L.out];clear bj;obtain⟨⟨u0,u1,u2,u3⟩,-,uz⟩:=mz a0.out;obtain⟨⟨t0,t1,t2,t3⟩,-,tz⟩:=mz b2.out;obtain⟨⟨g0,g1,g2,g3⟩,⟨f0,f1,f2,f3⟩,wz⟩:=mz P.out
 cases hu:(ur==0)
 ·have Y:Hid (f=(ur,⟨uf,ul,uc⟩)):=by show _=_;rw[z.out];exact QW hu
  have HC:Hid (cc=6):=by show _=_;rw[<-S.out,Y.out];exact QT (fun q=>by have q':(ur==0)=true:=q;rw[hu]at q';cases q')
  go_wp2;obtain⟨B1,R1,K1⟩:=vo (u0:=.int .i64 ur) (u1:=.string uf) (u2:=.int .i64 ul) (u3:=.int .i64 uc) P.out a.out k.out.1 k.out.2 ap.out (QR _);obtain⟨⟨c0,c1,c2,c3⟩,-,-⟩:=mz B1;exact QY (v:=.tuple #[.agg #[.int .i64 ur,.string uf,.int .i64 ul,.int .i64 uc],.int .i64 6]) (by simp[results,results37,go_sem,c0,c1,c2,c3]) rfl (by rw[HC.out,Y.out];exact⟨rfl,⟨(fun q=>by cases q),fun _=>⟨_,_,_,R1⟩⟩,K1⟩)
 ·cases ht:(tr==0)
  ·have Y:Hid (f=(tr,⟨tf,tl,tc⟩)):=by show _=_;rw[z.out];exact QT (fun q=>by have q':(ur==0)=false:=q;rw[hu]at q';cases q')
   have HC:Hid (cc=6):=by show _=_;rw[<-S.out,Y.out];exact QT (fun q=>by have q':(tr==0)=true:=q;rw[ht]at q';cases q')
   go_wp2;obtain⟨B1,R1,K1⟩:=vo (u0:=.int .i64 tr) (u1:=.string tf) (u2:=.int .i64 tl) (u3:=.int .i64 tc) P.out a.out k.out.1 k.out.2 ap.out (QR _);obtain⟨⟨c0,c1,c2,c3⟩,-,-⟩:=mz B1;exact QY (v:=.tuple #[.agg #[.int .i64 tr,.string tf,.int .i64 tl,.int .i64 tc],.int .i64 6]) (by simp[results,results37,go_sem,c0,c1,c2,c3]) rfl (by rw[HC.out,Y.out];exact⟨rfl,⟨(fun q=>by cases q),fun _=>⟨_,_,_,R1⟩⟩,K1⟩)
  ·obtain⟨a2,Z⟩:=G.out hu ht
   have a3:=hI Z;have Y:=hI a2;have HC:Hid (cc=0):=by show _=_;rw[<-S.out,Y.out];rfl
   clear a2 Z;have x2:o.cell? ⟨n,2,none⟩=some p2:=by rw[aa a.out.d];rfl
   have y2:=am a.out.d 2;have vz:=ae a.out.d;have O:=ah a.out.d 2 (.pointer (some ⟨C.heap.size,0,none⟩));obtain⟨y,F⟩:∃y,Hid (o.setCell ⟨n,2,none⟩ (.pointer (some ⟨C.heap.size,0,none⟩))=y):=⟨_,rfl⟩
   rw[F.out]at O;have m:Hid (ab [n] o y):=by show ab _ _ _;rw[<-F.out];exact(ab.refl [n] _).setCell (Q1 (by simp)) _
   have ac:=hI (fz.off bg.out a.out.d m.out);have bc:=hI (m.out.get P.out (by have:=k.out.1;simp;omega));have ad:=hI (fB.keptV (on':=false) a.out m.out O);have cb:=hI (Eo n C.heap.size T aT cT aS cS _ _ _ _ _ _ y O ac.out x.out R.out a3.out);clear O
   go_upto_region 13 with fail
   rw[F.out];clear x2 y2 vz u0 u1 u2 u3 uz t0 t1 t2 t3 tz g0 g1 g2 g3 f0 f1 f2 f3 wz
   go_upto_region 14 with (go_at_call 57;refine QU cb.out ?_;rintro e J ⟨PS,j1,j2,RS,rfl,bp,ag,jw⟩)
   have br:=hI (jw.kept.get bc.out (by have:=k.out.1;simp;omega));have A:=jw.d;have I:=jw.kept;have a7:=hI (fB.keptV (on':=false) ad.out I A);have b6:=(show Hid _ from(ap.out.trans m.out).trans I);have b5:=hI jw;have bx:=hI bp;have ca:=hI ag;have bs:=hI (fz.off ac.out ad.out.d I);have ao:Hid (w9.heap.size<=y.heap.size/\y.heap.size<=J.heap.size/\C.heap.size<=w9.heap.size):=⟨Q3 r.out.size m.out.size,I.size,ch.out⟩;have x1:J.cell? ⟨n,1,none⟩=some (.bool false):=by rw[aa A];rfl
   have y1:=am A 1;have vz:=ae A;have an:=ah A 1 (.bool true);obtain⟨ai,E⟩:∃ai,Hid (J.setCell ⟨n,1,none⟩ (.bool true)=ai):=⟨_,rfl⟩
   rw[E.out]at an;have v:Hid (ab [n] J ai):=by show ab _ _ _;rw[<-E.out];exact(ab.refl [n] _).setCell (Q1 (by simp)) _
   have bf:=hI (fB.keptV (on':=true) a7.out v.out an);have af:=hI (v.out.get br.out (by have:=k.out.1;simp;omega));have bz:=hI (b6.out.trans v.out);clear jw bp ag A I an
   go_upto_region 15 with fail
   rw[E.out];clear x1 y1 vz;obtain⟨⟨g0,g1,g2,g3⟩,⟨f0,f1,f2,f3⟩,wz⟩:=mz af.out;go_wp2;obtain⟨B1,R1,K1⟩:=vo (u0:=.int .i64 0) (u1:=.string ⟨#[]⟩) (u2:=.int .i64 0) (u3:=.int .i64 0) af.out bf.out k.out.1 k.out.2 bz.out (QR _);have KX:ab [n,w.heap.size] J _:=((((v.out.mono (S':=[n,w.heap.size]) (fun q hq _=>by rw[Q9.1 hq];exact Rn)).setCell (p:=⟨w.heap.size,0,none⟩) (Q1 (by simp)) (.int .i64 0)).setCell (p:=⟨w.heap.size,1,none⟩) (Q1 (by simp)) (.string ⟨#[]⟩)).setCell (p:=⟨w.heap.size,2,none⟩) (Q1 (by simp)) (.int .i64 0)).setCell (p:=⟨w.heap.size,3,none⟩) (Q1 (by simp)) (.int .i64 0);obtain⟨⟨c0,c1,c2,c3⟩,-,-⟩:=mz B1;exact QY (v:=.tuple #[.agg #[.int .i64 0,.string ⟨#[]⟩,.int .i64 0,.int .i64 0],.int .i64 0]) (by simp[results,results37,go_sem,c0,c1,c2,c3]) rfl (by rw[HC.out,Y.out];exact⟨rfl,⟨fun _=>⟨D.heap.size,ar.out.size,Mf b5.out bs.out R1 KX (QX k.out.1 ar.out.size) (ae bl.out) (by have:=V.out;have:=ao.out;omega) V.out.2 (fun g M=>⟨(bo.out g M).1,by have:=(bo.out g M).2;have:=ao.out;omega⟩) (fun g M=>⟨(ba.out g M).1,by have:=(ba.out g M).2;have:=ao.out;omega⟩) bx.out ca.out⟩,fun q=>absurd rfl q⟩,K1⟩)
theorem DZ(h:b<n):aE (H.take n) b=aE H b/\ak (H.take n) b=ak H b:=by
 unfold aE ak;rw[QQ,Tj,QW h,QQ];exact⟨rfl,rfl⟩
theorem mV.take(h:mV f z0 w x)(k:Nat)(c:k<=x.length):mV f z0 w (x.take k):=by
 have a:(x.take k).length=k:=by rw[RQ];omega
 refine⟨by rw[a];exact Q3 c h.1,fun j b=>?_⟩;rw[a]at b;obtain⟨e,d⟩:=DZ x k j b;rw[e,d];exact h.2 j (by omega)
theorem Le(h:mV f (some ⟨w,0,none⟩) T x)(j:Nat)(u:Value)(a:(qK x)[j]?=some u):f.cell? ⟨w,j,none⟩=some u:=by
 have k:j<x.length*2:=by
  rw[<-vn];exact(Q8.1 a).1
 obtain⟨i,e,-,g,b⟩:=h.2 (j / 2) (by omega)
 cases e
 obtain⟨c,d⟩:=v9 x (j / 2) (by omega)
 rcases UB j with e | e
 ·rw[show j / 2*2=j by omega]at g c
  rw[c]at a;rw[g,<-a]
 ·rw[show j / 2*2+1=j by omega]at b d
  rw[d]at a;rw[b,<-a]
def PB(w:World)(v:Nat)(h:Hd)(fs:Fs)(p2 p3 p4:Value)(r:Int)(w':World):Prop:=(r=0->∃h',fB w' v fs h' false p2 p3 p4/\ab (v :: h.blk.toList) w w'/\∀b,h'.blk=some b->h.blk=some b∨w.heap.size<=b)/\(r≠0->ab [] w w')
theorem PB.stay{r:Int}(b:r≠0)(a:ab [] f y):PB f w k x i o D r y:=⟨fun e=>absurd e b,fun _=>a⟩
theorem fB.newRow{b:Fs}(a:fB f w x k z2 i o D)(l:ab [] f y)(g:aw y N (cr b))(r:∀q,N.blk=some q->f.heap.size<=q)(j:b.length<=4)(p:T=b.length):fB (y.setCell ⟨w,0,none⟩ (.slice N.ao T N.cap)) w b N z2 i o D:=by
 have n:=l.get a.d (by simp);have t:=ae a.d;have c:N.blk≠some w:=fun m=>by have:=r w m;omega
 have s:ab [w] y (y.setCell ⟨w,0,none⟩ (.slice N.ao T N.cap)):=(ab.refl _ _).setCell (Q1 (by simp)) _;subst p;exact⟨by rw[ah n];rfl,g.Vg (fun q h=>s.block q (g.lt h) (by simp;intro e;exact c (by rw[<-e];exact h))),c,j⟩
theorem Ev(a:Fs)(h:Hd)(on:Bool)(p2 p3 p4:Value)(E:Option Addr)(i:Nat)(w:World)(Z:fB w L H h on p2 p3 p4)(hS:mV w E i a)(hn:E=none->a.length=0/\i=0)(ha:∀B,E=some B->∃g,B=⟨g,0,none⟩)(V:∀j,j<a.length->(aE a j).size<=1073741824/\(ak a j).size<=1073741824) :
  Calls prog 31 #[.pointer (some ⟨L,0,none⟩),.slice E a.length i] w fun e o=>e=.returned (.int .i64 (dy a))/\PB w L h (jt H a) p2 p3 p4 (dy a) o:=by
 have HR:=hI Z
 by_cases h4:4<a.length
 ·have T:Hid (dy a=1):=by show _=_;unfold dy;rw[QW h4]
  rw[T.out];have ar:(4:Int)<(a.length:Int):=by omega
  clear Z;go_enter func31,ntmps31;go_wp2;go_ret;exact⟨rfl,PB.stay (by decide) (ab.refl _ _)⟩
 ·have T:Hid (dy a=dJ (Dx a) a.length):=by show _=_;unfold dy;rw[QT h4]
  obtain⟨r,Hr⟩:∃r,Hid (dy a=r):=⟨_,rfl⟩
  rw[Hr.out]at T ⊢;have ar:¬(4:Int)<(a.length:Int):=by omega
  have X:=hI hS;have HN:=hI hn;have ap:=hI ha;have G:=hI V;obtain⟨iF,a1,K,P,M⟩:=Re zZ;clear Z hS hn ha V;go_enter func31,ntmps31;go_wp2
  go_loopg [5] a.length (fun g iv wr=>∃k:Nat,k<=a.length/\g=a.length-k/\iv=.int .i64 k/\Hid (dJ (Dx a) k=0)/\Hid (ab [] w wr))
  case atStart=>exact⟨0,by omega,rfl,rfl,rfl,ab.refl _ _⟩
  case round =>
   obtain⟨k,hk,hg,rfl,HZ,x⟩:=hrel
   by_cases t:k<a.length
   ·have a4:(k:Int)<(a.length:Int):=by omega
    have a3:(0:Int)<=(k:Int):=by omega
    have a5:=X.out.1;obtain⟨A,rfl,v,c0,c1⟩:=(mV.Vb X.out x.out).2 k t;have HC:Hid (∀o,ab [] wr o->o.cell? ⟨A,k*2,none⟩=some (.string (aE a k))/\o.cell? ⟨A,k*2+1,none⟩=some (.string (ak a k))/\A<o.heap.size):=fun o kw=>⟨by rw[Q6 (kw.block A v (by simp))];exact c0,by rw[Q6 (kw.block A v (by simp))];exact c1,QX v kw.size⟩
    have C:Hid (∀s,ab [] wr s->Calls prog 35 #[.slice (some ⟨A,0,none⟩) k i,.string (aE a k)] s fun e o=>e=.returned (.int .i64 (bF (a.take k) (aE a k)))/\o=s):=fun s kx=>by
     have hl:(a.take k).length=k:=by rw[RQ];omega
     have:=mu (a.take k) (some ⟨A,0,none⟩) i (aE a k) s (by omega) (mV.take (mV.Vb X.out (x.out.trans kx)) k hk);rw[hl]at this;exact this
    have O:Hid (∀s,Calls prog 34 #[.string (aE a k),.string (ak a k)] s fun e o=>e=.returned (.int .i64 (cJ (aE a k) (ak a k)))/\o=s):=fun s=>BE _ _ s (G.out k t).1 (by have:=(G.out k t).2;omega)
    have p:Hid (Dx a k=if(cJ (aE a k) (ak a k)==0)=false then cJ (aE a k) (ak a k) else if 0<=bF (a.take k) (aE a k) then 4 else 0):=rfl;have Q:Hid ((Dx a k==0)=false->r=Dx a k):=fun q=>by rw[T.out];exact ou HZ.out q t
    have ac:Hid (Dx a k=0->dJ (Dx a) (k+1)=0):=fun q=>by rw[dJ,HZ.out];exact q
    generalize aE a k=nm at *;generalize ak a k=dt at *;obtain⟨J,ai⟩:∃J,Hid (cJ nm dt=J):=⟨_,rfl⟩
    rw[ai.out]at O p;obtain⟨Y,az⟩:∃Y,Hid (bF (a.take k) nm=Y):=⟨_,rfl⟩
    rw[az.out]at C p
    go_upto_region 6 with fail
    go_region_with (go_at_call 34;refine(O.out _).mono ?_;rintro e D ⟨rfl,af⟩)
    all_goals
     subst af;obtain⟨D,H9⟩:∃D,Hid (wr.drew=D):=⟨_,rfl⟩
     rw[H9.out];have f:Hid (ab [] wr D):=by show ab _ _ _;rw[<-H9.out];exact(ab.refl [] wr).drew
     clear c0 c1 v
     cases c:(J==0)
     ·rw[c,QW rfl]at p
      have l:=hI (Q.out (by rw[p.out];exact c));rw[p.out]at l;have al:(J != 0)=true:=by unfold bne;rw[c];rfl
      go_wp2;go_ret;exact⟨QN l.out.symm,PB.stay (by rw[l.out];exact fun q=>by rw[q]at c;cases c) (x.out.trans f.out)⟩
     ·rw[c,QT (by simp)]at p
      have al:(J != 0)=false:=by unfold bne;rw[c];rfl
      obtain⟨d0,d1,d2⟩:=HC.out D f.out
      by_cases S:0<=Y
      ·rw[QW S]at p
       have l:=hI (Q.out (by rw[p.out];rfl));rw[p.out]at l
       go_upto_region 9 with fail
       go_region_with (go_at_call 35;refine(C.out _ (by exact f.out.drew)).mono ?_;rintro e w8 ⟨rfl,z⟩)
       all_goals
        subst z;have y:Hid (ab [] w D.drew):=(x.out.trans f.out).drew;go_wp2;go_ret;exact⟨QN l.out.symm,PB.stay (by rw[l.out];decide) y.out⟩
      ·rw[QT S]at p
       have HM:=hI (ac.out p.out)
       go_upto_region 9 with fail
       go_region_with (go_at_call 35;refine(C.out _ (by exact f.out.drew)).mono ?_;rintro e w8 ⟨rfl,z⟩)
       all_goals
        subst z;have y:Hid (ab [] w D.drew):=(x.out.trans f.out).drew;go_wp2
        go_roundg (a.length-(k+1))
        case measure=>omega
        case rel=>exact⟨k+1,by omega,rfl,by go_num,HM,y⟩
   ·have e:k=a.length:=by omega
    subst e;have l:Hid (r=0):=by show _=_;rw[T.out];exact HZ.out
    have a6:¬(a.length:Int)<(a.length:Int):=by omega
    have I:=hI (HR.out.Vb x.out);have a2:aw wr ⟨none,0⟩ (cr []):=QZ _ _ _ _;have an:=hI (mV.Vb X.out x.out)
    have ag:Hid (∀B,E=some B->∀j u,(qK a)[j]?=some u->wr.cell? (B.add j)=some u):=fun B e j u hu=>by
     obtain⟨g,rfl⟩:=ap.out B e;rw[bL];exact Le (by rw[<-e];exact an.out) j u hu
    have ax:Hid ((cr ([]:Fs)).n+a.length<=1000000000):=by show 0+a.length<=_;omega
    have a0:Hid (∀m:Nat,(cr ([]:Fs)).n+m=m):=fun m=>SJ m
    go_upto_region 12 with fail
    go_wp2_with (at_builtin;refine ed _ rfl (.const (.slice none 0 0)) (.tmp 43) 33 rfl iF (.agg #[.string ⟨#[]⟩,.string ⟨#[]⟩]) 32 ⟨none,0⟩ (cr []) underlying33 a1 K P M rfl Uq rfl a2 E a.length i (qK a) rfl (vn a) HN.out ag.out (Gj a) ax.out (by omega) ?_;intro h5 w5 R U;have K5:ab [] wr w5:=(U.kept.mono (by simp[Hd.blk]));have N:=K5.get I.out.d (by simp);have v0:w5.cell? ⟨L,0,none⟩=some (.slice h.ao H.length h.cap):=(by rw[aa N];rfl);have v1:w5.cell? ⟨L,1,none⟩=some (.bool on):=(by rw[aa N];rfl);have e0:=am N 0;have e1:=am N 1;have vz:=ae N);go_ret
    have er:(⟨(cr []).e,(cr []).size,(cr []).n+a.length,(cr []).xs++qK a⟩:dN)=cr a:=by
     show dN.mk _ _ (0+a.length) ([]++qK a)=_
     rw[SJ];rfl
    rw[er]at R
    have F:∀q,h5.blk=some q->wr.heap.size<=q:=by
     intro q W
     rcases U.blk with e | ⟨g,e,hg⟩
     ·rw[e]at W;cases W
     ·rw[e]at W;cases W;exact hg
    have aT:=(I.out.newRow K5 R F (by omega) (a0.out a.length)).off;have aS:=hI (yO (fs0:=H) (Hr.out.trans l.out));exact⟨QN l.out.symm,by rw[aS.out];exact⟨fun _=>⟨h5,aT,(((x.out.trans K5).mono (by simp)).setCell (Q1 (by simp)) _).setCell (Q1 (by simp)) _,fun b hb=>QV (Q3 x.out.size (F b hb))⟩,fun q=>absurd l.out q⟩⟩
end Go.Proofs.YtpddjjabfbfifaaGreat

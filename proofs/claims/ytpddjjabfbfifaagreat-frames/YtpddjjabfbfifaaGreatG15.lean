import Derived.Test.YtpddjjabfbfifaaGreatG12
import Derived.Test.YtpddjjabfbfifaaGreatG14
namespace Go.Proofs.YtpddjjabfbfifaaGreat
open Go.RowKit Tryz
set_option maxHeartbeats 0
variable{v z4:ByteArray}{w T g M y5 y6:Nat}{z1:List ByteArray}{S:List Tk}{z7:Tk}{d:List Sm}{f y:World}{z0 y0:Option Addr}{zb:List Nat}{i o D z5 y7 y8:Value}{x:Fs}{k N:Hd}{z2:Bool}(z6:List Tk)(L:Nat)(H:Fs)(I a:ByteArray)(n b:Nat)(l:List Tk)(z3:Nat->List Bool->List Tk->List Tk×List Bool)
theorem iW{l m:List UInt8}(h:(v.toList==l)=true):(v.toList==m)=(l==m):=by
 have:v.toList=l:=by simpa using h
 rw[this]
section
variable {T:List Tk} {S:List Sm} {f:Nat}
structure vE(T:List Tk)(S:List Sm)(j:Nat):Prop where
 le:(au S j).h<=(au S j).z-1
 zt:(au S j).z<=T.length
 pos:0<(au S j).z
 dot:((tS T ((au S j).z-1)).toList == [36,46])=true
 cl:ip (au S j).k (fa T (au S j).h ((au S j).z-1))=0
 w:∀q,(au S j).h<=q->q<(au S j).z-1->lW T S (au S j).k (tS T q) j (fa T (au S j).h q)=0/\bS (tS T q)=false
theorem oQ(p:Dt T T.length S f)(c:∀q,q<T.length->bh T S q=0)(j:Nat)(h:j<S.length)(u:bS (au S j).k=false):vE T S j:=by
 have t:=GT p j h;obtain⟨P,o⟩:=p.s j h
 have b:(au S j).h<=(au S j).z-1->(au S j).a<(au S j).h->vE T S j:=fun l A=>by
  have B:=P.lt;have r:=c ((au S j).z-1) (by omega);rw[t ((au S j).z-1) (by omega) (by omega),QT (by omega),QT (by omega)]at r;obtain⟨v,w⟩:=wU P.e r;refine⟨l,o,by omega,v,w,fun q F y=>?_⟩;have Q:=c q (by omega);rw[t q (by omega) (by omega),QT (by omega),QT (by omega)]at Q;exact⟨Q,P.n q (by omega) y⟩
 have d:=P.k;have G:=P.lt;unfold ew at d
 by_cases g:(ii (tS T (au S j).a) ⟨#[36]⟩||decide (T.length<=(au S j).a+1))=true
 ·rw[QW g]at d
  have i:(au S j).k=tS T (au S j).a:=congrArg Prod.fst d;have x:(au S j).h=(au S j).a+1:=congrArg Prod.snd d;refine b ?_ (by omega)
  by_cases C:(au S j).z-1=(au S j).a
  ·have:=P.e
   rw[C,<-i,u]at this
   cases this
  ·omega
 ·rw[QT g]at d
  have i:(au S j).k=tS T ((au S j).a+1):=congrArg Prod.fst d;have x:(au S j).h=(au S j).a+2:=congrArg Prod.snd d
  have m:ii (tS T (au S j).a) ⟨#[36]⟩=false:=by
   cases e:ii (tS T (au S j).a) ⟨#[36]⟩
   ·rfl
   ·rw[e]at g;exact absurd rfl g
  refine b ?_ (by omega)
  have D:(au S j).z-1≠(au S j).a:=fun e=>by
   have:=(kM P.e).1;rw[e,m]at this;cases this
  have E:(au S j).z-1≠(au S j).a+1:=fun e=>by
   have:=P.e;rw[e,<-i,u]at this;cases this
  omega
theorem se(a:L+b<n)(c:n<=z6.length):(fa z6 L n).getD b ⟨#[]⟩=tS z6 (L+b):=by
 unfold fa tS;rw[QQ,Rq,Tj,QW (by omega),SV,QQ];rw[QP (by omega)];rfl
theorem pF(a:n<=b)(c:b<=z6.length):(fa z6 n b).length=b-n:=by
 unfold fa;rw[Ri,RQ,RT];omega
theorem xj(P:vE T S w):bu T (au S w).h=(fa T (au S w).h ((au S w).z-1)).takeWhile kB:=by
 have i:=P.zt;have g:=P.pos;have c:=P.le;unfold bu
 have e:T.drop (au S w).h=(T.drop (au S w).h).take ((au S w).z-1-(au S w).h)++(T.getD ((au S w).z-1) jf) :: T.drop (au S w).z:=by
  conv=>lhs;rw[<-Ul ((au S w).z-1-(au S w).h) (T.drop (au S w).h)]
  rw[List.drop_drop,show(au S w).h+((au S w).z-1-(au S w).h)=(au S w).z-1 by omega,Ge T ((au S w).z-1) (by omega),show(au S w).z-1+1=(au S w).z by omega]
 rw[e,show ∀(L:List Tk) (t:Tk) (M:List Tk),L++t :: M=(L++[t])++M from fun L t M=>by simp,yk]
 ·rw[vO _ _ (fun u f=>?_) P.dot]
  ·rfl
  ·obtain⟨q,d,a⟩:=R0 f
   rw[RQ,RT]at d;have:=(P.w ((au S w).h+q) (by omega) (by omega)).2;unfold bS at this;simp only[Bool.or_eq_false_iff]at this
   have b:u.s=tS T ((au S w).h+q):=by
    rw[<-a,List.getElem_take,TI];unfold tS;rw[QQ,QP (by omega)];rfl
   rw[b];exact this.1.1
 ·exact⟨T.getD ((au S w).z-1) jf,by simp,tA P.dot⟩
theorem qz(P:vE T S w):cU T (au S w).h:=⟨(au S w).z-1,P.le,by have:=P.zt;have:=P.pos;omega,tA P.dot⟩
theorem vu(h:lW T S v z4 w z1=0)(a:(z4.toList == [36,61])=true):(v.toList == [36,112])=true/\aJ z1 ⟨#[36,61]⟩=false/\z1.length≠0:=by
 unfold lW at h;rw[iW a (m:=[36,46]),QT (by decide),a,Sv]at h
 cases b:(v.toList == [36,112])
 ·rw[b,TQ,QT (by simp),QW (by rw[oD a];decide +kernel)]at h;cases h
 ·cases c:aJ z1 ⟨#[36,61]⟩
  ·rw[b,c]at h
   by_cases d:z1.length=0
   ·rw[QW (by rfl),QW d]at h;cases h
   ·exact⟨rfl,rfl,d⟩
  ·rw[b,c,QT (by decide),QW (by rw[oD a];decide +kernel)]at h;cases h
end
section
variable {T:List Tk} {S:List Sm} {f:Nat}
theorem zG:fa z6 b b=[]:=by unfold fa;rw[RY];simp
theorem vx(P:vE T S w):0<(fa T (au S w).h ((au S w).z-1)).length/\(((au S w).k.toList == [36,102])=true->1<(fa T (au S w).h ((au S w).z-1)).length):=by
 have a:=P.cl;unfold ip at a
 split at a
 ·cases a
 ·next e =>
  split at a
  ·cases a
  ·next b =>
   refine⟨by omega,fun c=>?_⟩;have:¬(fa T (au S w).h ((au S w).z-1)).length<2:=fun d=>b (by rw[c];simp[d])
   omega
theorem zF(c:w<=T)(a:T<=T.length)(f:aJ (fa T w T) v=true):∃q,w<=q/\q<T/\tS T q=v:=by
 unfold aJ at f;obtain⟨y,i,e⟩:=RC.1 f;obtain⟨q,d,g⟩:=R0 i;rw[pF T w T c a]at d;refine⟨w+q,by omega,by omega,?_⟩;have b:=se T w T q (by omega) a;rw[QQ,QP (by rw[pF T w T c a];exact d)]at b;have h:(fa T w T)[q]=tS T (w+q):=b;rw[<-h,g];have:y.toList=v.toList:=by simpa using e
 apply U4
 apply Un.1
 rw[<-RZ,<-RZ,this]
theorem ut(P:vE T S w)(d:((au S w).k.toList == [36,112])=false):bu T (au S w).h=fa T (au S w).h ((au S w).z-1):=by
 rw[xj P];refine vp _ ?_
 cases e:aJ (fa T (au S w).h ((au S w).z-1)) ⟨#[36,61]⟩
 ·rfl
 ·have i:=P.zt
  have g:=P.pos;obtain⟨q,b,c,a⟩:=zF P.le (by omega) e;have f:=(P.w q b c).1;have:=(vu f (by rw[a];decide +kernel)).1;rw[d]at this;cases this
theorem uq(P:vE T S w):((tS T (au S w).h).toList == [36,61])=false/\(au S w).h<(au S w).z-1:=by
 have b:=(vx P).1;have f:=P.zt;have d:=P.pos;rw[pF T _ _ P.le (by omega)]at b;have a:(au S w).h<(au S w).z-1:=by omega
 refine⟨?_,a⟩
 cases e:((tS T (au S w).h).toList == [36,61])
 ·rfl
 ·have c:=(P.w _ (QR _) a).1
  have:=(vu c e).2.2;rw[zG]at this;exact absurd rfl this
theorem zk(P:vE T S w):0<(bu T (au S w).h).length/\(bu T (au S w).h).getD 0 ⟨#[]⟩=tS T (au S w).h:=by
 obtain⟨b,f⟩:=uq P;have g:=P.zt;have a:=se T (au S w).h ((au S w).z-1) 0 (by omega) (by omega);have c:=(vx P).1;rw[xj P];rw[Tg]at a;generalize fa T (au S w).h ((au S w).z-1)=B at *
 cases B with
 | nil=>simp at c
 | cons x B =>
  have e:x=tS T (au S w).h:=a;have d:kB x=true:=by unfold kB;rw[e,b];rfl
  rw[SN d];exact⟨by simp,e⟩
theorem PZ(p:Dt T T.length S f)(b:∀q,q<T.length->bh T S q=0)(n:Nat)(i:n<=S.length):Kk T S n:=fun j g c=>by
 have a:bS (au S j).k=false:=by
  unfold aC aG at c;simp only[Bool.or_eq_true]at c
  rcases c with (h | h) | (h | h) <;> exact fX h (by decide)
 have P:=oQ p b j (by omega) a;refine⟨(zk P).1,fun e=>?_⟩;have d:((au S j).k.toList == [36,112])=false:=by rw[iW e];decide
 show 1<(bu T (au S j).h).length
 rw[ut P d];exact(vx P).2 e
theorem wV(h:lW T S v z4 w z1=0)(a:bS z4=false)(d:(z4.toList == [36,61])=false)(b:aJ z1 ⟨#[36,61]⟩=false):(if((v.toList == [36,99])||(v.toList == [36,118]))=true then jW T S z4 w (v.toList == [36,99]) z1 else jm T S v z4 w z1)=0:=by
 unfold lW at h
 have c:(z4.toList == [36,46])=false:=by
  unfold bS at a;simp only[Bool.or_eq_false_iff]at a;exact a.1.1
 rw[c,d,b,QT (by simp),TQ,QT (by simp)]at h
 split at h
 ·cases h
 ·exact h
theorem MI(P:vE T S w)(c:(aC (au S w).k||aG (au S w).k)=true):eF T S (tS T (au S w).h) w=true:=by
 obtain⟨e,f⟩:=uq P;obtain⟨d,i⟩:=P.w _ (QR _) f;rw[zG]at d;have b:=wV d i e rfl
 have a:(((au S w).k.toList == [36,99])||((au S w).k.toList == [36,118]))=false/\((au S w).k.toList == [36,100])=false:=by
  unfold aC aG at c;simp only[Bool.or_eq_true]at c
  rcases c with (h | h) | (h | h) <;> (rw[iW h,iW h,iW h];decide)
 rw[a.1,QT (by simp)]at b;unfold jm at b;rw[a.2,QT (by simp),QW (by rfl)]at b
 cases g:eF T S (tS T (au S w).h) w
 ·rw[g,QW rfl]at b;cases b
 ·rfl
theorem P0(P:vE T S w)(a:((au S w).k.toList == [36,102])=true):kZ T S (tS T ((au S w).h+1)) w=true/\(bu T (au S w).h).getD 1 ⟨#[]⟩=tS T ((au S w).h+1):=by
 have l:=(vx P).2 a;have p:=P.zt;have o:=P.pos;rw[pF T _ _ P.le (by omega)]at l;have b:((au S w).k.toList == [36,112])=false:=by rw[iW a];decide
 have j:=se T (au S w).h ((au S w).z-1) 1 (by omega) (by omega);refine⟨?_,by rw[ut P b];exact j⟩;obtain⟨f,i⟩:=P.w ((au S w).h+1) (by omega) (by omega)
 have m:((tS T ((au S w).h+1)).toList == [36,61])=false:=by
  cases e:((tS T ((au S w).h+1)).toList == [36,61])
  ·rfl
  ·have:=(vu f e).1
   rw[b]at this;cases this
 have d:fa T (au S w).h ((au S w).h+1)=[tS T (au S w).h]:=by
  have:=Be T (au S w).h (au S w).h (QR _) (by omega);rw[zG]at this;exact this
 have g:aJ (fa T (au S w).h ((au S w).h+1)) ⟨#[36,61]⟩=false:=by
  rw[d,ru];have e:(⟨#[36,61]⟩:ByteArray).toList=[36,61]:=by decide +kernel
  rw[e];exact(uq P).1
 have c:=wV f i m g;rw[iW a,iW a,QT (by decide)]at c;unfold jm at c;rw[d,iW a,QT (by decide),QT (by simp),a,QW rfl,QT (by simp)]at c
 cases n:kZ T S (tS T ((au S w).h+1)) w
 ·rw[n,QW rfl]at c;cases c
 ·rfl
theorem Ct(p:Dt T T.length S f)(l:∀q,q<T.length->bh T S q=0)(hi:w<=S.length)(hk:T<=S.length)(r:eF T S v w=true)(s:kZ T S v T=true):False:=by
 unfold eF jq at r;unfold kZ jq at s;obtain⟨j,t,u⟩:=RC.1 r;obtain⟨m,H,x⟩:=RC.1 s;have t:=Ra.1 t;have H:=Ra.1 H;unfold pG at u x;rw[nR.1,Rg,Rg]at u;rw[nR.2,Rg,Rg]at x;obtain⟨k,F,-⟩:=u;obtain⟨E,K,-⟩:=x
 have c:∀(j:Nat),j<S.length->(((au S j).k.toList == [36,99])=true∨((au S j).k.toList == [36,118])=true)->aJ (bu T (au S j).h) v=true->∃B,jW T S v j ((au S j).k.toList == [36,99]) B=0:=fun j t a G=>by
  have d:bS (au S j).k=false:=by rcases a with h | h <;> exact fX h (by decide)
  have P:=oQ p l j t d;have n:((au S j).k.toList == [36,112])=false:=by rcases a with h | h <;> (rw[iW h];decide)
  rw[ut P n]at G;have hz:=P.zt;have X:=P.pos;obtain⟨q,D,J,e⟩:=zF P.le (by omega) G;obtain⟨V,U⟩:=P.w q D J
  have b:∀q,(au S j).h<=q->q<(au S j).z-1->((tS T q).toList == [36,61])=false:=fun q r s=>by
   cases e:((tS T q).toList == [36,61])
   ·rfl
   ·have:=(vu (P.w q r s).1 e).1
    rw[n]at this;cases this
  have O:aJ (fa T (au S j).h q) ⟨#[36,61]⟩=false:=by
   cases N:aJ (fa T (au S j).h q) ⟨#[36,61]⟩
   ·rfl
   ·obtain⟨Y,L,a2,M⟩:=zF D (by omega) N
    have:=b Y L (by omega);rw[M]at this;exact absurd this (by decide +kernel)
  have I:=wV V U (b q D J) O;rw[QW (by rcases a with h | h <;> rw[h] <;> simp),e]at I;exact⟨_,I⟩
 obtain⟨Z,g⟩:=c j (by omega) (Q1 k) F;obtain⟨B2,i⟩:=c m (by omega) (QV E) K;have o:((au S m).k.toList == [36,99])=false:=by rw[iW E];decide
 rw[k]at g;rw[o]at i;unfold jW at g i
 rcases Nat.lt_trichotomy j m with C | y | A
 ·have Q:eF T S v m=true:=by
   unfold eF jq;exact mZ j C (by unfold pG;rw[nR.1,k,F];simp)
  rw[Q]at i
  split at i
  ·cases i
  ·simp at i
 ·rw[y,o]at k;cases k
 ·have R:jq T S ⟨#[36,118]⟩ v j false=true:=by
   unfold jq;exact mZ m A (by unfold pG;rw[nR.2,E,K];simp)
  have W:jC T S v j=true:=by unfold jC;rw[R];simp
  rw[W]at g
  split at g
  ·cases g
  ·simp at g
theorem Qx(p:Dt T T.length S f)(a:∀q,q<T.length->bh T S q=0)(n:Nat)(A:n<=S.length):OL T S n:=fun r B g=>by
 have P:=oQ p a r (by omega) (by unfold aC at g;rcases RB _ _ ▸ g with h | h <;> exact fX h (by decide));have w:=MI P (by rw[g];rfl);have s:(cI T S r).getD 0 ⟨#[]⟩=tS T (au S r).h:=(zk P).2;rw[s]
 cases e:aJ (gK T S (bW T S r) (bW T S r).length) (tS T (au S r).h)
 ·rfl
 ·exfalso
  unfold aJ at e;obtain⟨y,l,d⟩:=RC.1 e;unfold gK at l;obtain⟨i,k,rfl⟩:=Si.1 l;unfold xO at k;obtain⟨b,c⟩:=RH.1 k;have b:=Ra.1 b;have v:(bW T S r).getD i 0=(bW T S r)[i]:=by rw[QQ,QP b];rfl
  unfold GI at c;rw[v]at c d;have z:=sK T S r (bW T S r)[i] (Rb b);generalize (bW T S r)[i]=j at *;have o:=oQ p a j (by omega) (fX c (by decide));obtain⟨m,x⟩:=P0 o c;have t:cI T S j=bu T (au S j).h:=rfl;rw[t,x]at d
  have u:tS T ((au S j).h+1)=tS T (au S r).h:=by
   have:(tS T ((au S j).h+1)).toList=(tS T (au S r).h).toList:=by simpa using d
   apply U4
   apply Un.1
   rw[<-RZ,<-RZ,this]
  rw[u]at m;exact Ct p a (by omega) (by omega) w m
end
theorem J9(c:l.length<=10000)(a:∀q,q<l.length->bh l (aj l) q=0)(n:Nat)(f:n<=(aj l).length):nK l (aj l) n:=by
 have p:=fw l;have i:(aj l).length<=l.length:=oG l l.length;obtain⟨g,b⟩:=Ao l (by omega) a;have h:nK l (aj l) (aj l).length:=⟨g,by omega,c,fun j d e=>qz (oQ p a j d e),b⟩;exact h.mono f
def FQ(S:List Sm)(a r:Nat):Prop:=r<a/\(aC (au S r).k||aG (au S r).k)=true
structure OK(T:List Tk)(S:List Sm)(a i:Nat)(s:dj):Prop where
 nd:s.need<=10000
 Vm:s.ref=-1∨(s.ref=-2/\s.back<i)∨∃r,FQ S a r/\s.ref=(r:Nat)/\s.need=iD T S (r:Nat)
def mU(T:List Tk)(S:List Sm)(a:Nat)(P:List dj):Prop:=∀i,i<P.length->OK T S a i (bO P i)
section
variable {T:List Tk} {S:List Sm} {a:Nat}
theorem mU.snoc{P:List dj}{s:dj}(h:mU T S a P)(f:OK T S a P.length s):mU T S a (P++[s]):=fun i d=>by
 rw[Q0,Rp,Rs]at d
 by_cases e:i<P.length
 ·have b:bO (P++[s]) i=bO P i:=by unfold bO;rw[QQ,QQ,Q7 e]
  rw[b];exact h i e
 ·have c:i=P.length:=by omega
  have b:bO (P++[s]) i=s:=by unfold bO;rw[c,QQ,Q5 (QR _),RY];rfl
  rw[b,c];exact f
theorem mU.nil:mU T S a []:=fun i b=>by simp at b
theorem Cu(b:a<=10000)(c:w<a):iD T S (w:Nat)<=10000:=by
 unfold iD
 split
 ·omega
 ·split
  ·have:=kj T S (w:Int).toNat
   rw[Sa]at this ⊢;omega
  ·omega
theorem zo(h:eU T S a v=(w:Int)):FQ S a w:=by
 have d:=p9 T S a v;rw[h]at d
 rcases d with e | ⟨q,k,e⟩
 ·omega
 ·have f:w=q:=by omega
  subst f;refine⟨k,?_⟩;unfold eU at h
  split at h
  ·omega
  ·split at h
   ·unfold bE at h
    cases c:(List.range a).find? (qL T S v) with
    | none=>rw[c]at h;simp at h
    | some j =>
     rw[c]at h;have g:j=w:=by have h:(j:Int)=(w:Int):=h;omega
     have b:=Tm c;rw[g]at b;unfold qL at b;rw[Rg]at b
     cases i:(aC (au S w).k||aG (au S w).k)
     ·exfalso
      have:bG T (au S w)=⟨#[]⟩:=by unfold bG;rw[i,QT (by simp)]
      rw[this]at b;exact absurd b.1 (by decide +kernel)
     ·rfl
   ·omega
theorem La(m:a<=10000)(e:Nat)(n:Nat):∀i P,mU T S a P->mU T S a (m9 T S a e n i P).st/\((m9 T S a e n i P).why=0->0<(m9 T S a e n i P).st.length)/\(m9 T S a e n i P).st.length<=P.length+n:=by
 induction n with
 | zero =>
  intro i P d;rw[m9]
  split
  ·exact⟨mU.nil,fun h=>(by cases h),Ro _⟩
  ·exact⟨d,fun _=>(by simp only;omega),(by simp)⟩
 | succ n l =>
  intro i P d;rw[m9]
  split
  ·obtain⟨b,c,f⟩:=l (i+1) _ (d.snoc (s:=⟨-1,0,0,(T.getD i jf).file,(T.getD i jf).line,(T.getD i jf).col⟩) ⟨by show 0<=10000;omega,Q1 rfl⟩)
   exact⟨b,c,by simp at f ⊢;omega⟩
  ·split
   ·exact⟨mU.nil,fun h=>(by cases h),Ro _⟩
   ·next b c =>
    obtain⟨k,g⟩:∃k:Nat,eU T S a (tS T i)=k:=⟨(eU T S a (tS T i)).toNat,by omega⟩
    have j:=zo g;rw[g];obtain⟨b,c,f⟩:=l (i+1) _ (d.snoc (s:=⟨(k:Int),0,iD T S (k:Int),(T.getD i jf).file,(T.getD i jf).line,(T.getD i jf).col⟩) ⟨Cu m j.1,QV (QV ⟨k,j,rfl,rfl⟩)⟩);exact⟨b,c,by simp at f ⊢;omega⟩
theorem Mw(A:a<=10000)(d:List Nat)(n:∀r∈d,FQ S a r)(v:Lt)(L:List Lt):∀P b f g,mU T S a P->(∀t∈b,t<P.length)->(g=true->0<P.length) ->
  mU T S a (nj T S d v L P b f g).st/\((nj T S d v L P b f g).why=0->0<(nj T S d v L P b f g).st.length)/\(nj T S d v L P b f g).st.length<=P.length+L.length:=by
 induction L with
 | nil =>
  intro P b f g o _ _;rw[nj]
  split
  ·exact⟨mU.nil,fun h=>(by cases h),Ro _⟩
  ·split
   ·exact⟨mU.nil,fun h=>(by cases h),Ro _⟩
   ·exact⟨o,fun _=>(by simp only;omega),(by simp)⟩
 | cons l L w =>
  intro P b f g o p z;rw[nj]
  split
  ·obtain⟨i,j,k⟩:=w P b (f++Du l.c) false o p (fun h=>by cases h)
   exact⟨i,j,by simp at k ⊢;omega⟩
  ·split
   ·split
    ·exact⟨mU.nil,fun h=>(by cases h),Ro _⟩
    ·next y =>
     have B:=yS (f++Du l.c) (d.length+b.length);generalize iO (f++Du l.c) (d.length+b.length)=m at *
     have D:OK T S a P.length (rN T S d b m l):=by
      unfold rN
      split
      ·next C =>
       have q:m-1<d.length:=by omega
       have e:d.getD (m-1) 0=d[m-1]:=by rw[QQ,QP q];rfl
       have x:=n d[m-1] (Rb q);rw[e];exact⟨Cu A x.1,QV (QV ⟨_,x,rfl,rfl⟩)⟩
      ·next C =>
       have q:m-d.length-1<b.length:=by omega
       have e:b.getD (m-d.length-1) 0=b[m-d.length-1]:=by rw[QQ,QP q];rfl
       rw[e];exact⟨by show 0<=10000;omega,QV (Q1 ⟨rfl,p _ (Rb q)⟩)⟩
     obtain⟨i,j,k⟩:=w _ b ⟨#[]⟩ true (o.snoc D) (fun t u=>by rw[Q0];have:=p t u;omega) (fun _=>by simp);exact⟨i,j,by simp at k ⊢;omega⟩
   ·split
    ·next y =>
     have E:=z y.2
     obtain⟨i,j,k⟩:=w P (b++[P.length-1]) f false o (fun t u=>by
      rcases Rr.1 u with h | h
      ·exact p t h
      ·rw[Q9.1 h];omega) (fun h=>by cases h)
     exact⟨i,j,by simp at k ⊢;omega⟩
    ·split
     ·obtain⟨i,j,k⟩:=w _ b f false (o.snoc (s:=⟨-1,0,0,l.file,l.line,l.col⟩) ⟨by show 0<=10000;omega,Q1 rfl⟩) (fun t u=>by rw[Q0];have:=p t u;omega) (fun h=>by cases h)
      exact⟨i,j,by simp at k ⊢;omega⟩
     ·exact⟨mU.nil,fun h=>(by cases h),Ro _⟩
theorem NU(o:a<=10000)(m:dC T)(c:Nat)(n:Nat):∀i b,(∀r∈b,FQ S a r)->mU T S a (ve T S a c n i b).st/\((ve T S a c n i b).why=0->0<(ve T S a c n i b).st.length)/\(ve T S a c n i b).st.length<=1024*T.length:=by
 induction n with
 | zero=>intro i b _;rw[ve];exact⟨mU.nil,fun h=>(by cases h),Ro _⟩
 | succ n q =>
  intro i b l;rw[ve]
  split
  ·obtain⟨e,f,g⟩:=Mw (T:=T) o b l (Ez (T.getD c jf)) (eR T (i+1) c) [] [] ⟨#[]⟩ false mU.nil (fun t p=>by cases p) (fun h=>by cases h)
   have:=xg T m (i+1) c;rw[Rs,SJ]at g;exact⟨e,f,by unfold j4;omega⟩
  ·split
   ·exact⟨mU.nil,fun h=>(by cases h),Ro _⟩
   ·split
    ·exact⟨mU.nil,fun h=>(by cases h),Ro _⟩
    ·next e f g =>
     obtain⟨k,j⟩:∃k:Nat,eU T S a (tS T i)=k:=⟨(eU T S a (tS T i)).toNat,by omega⟩
     refine q (i+1) _ (fun r d=>?_)
     rcases Rr.1 d with h | h
     ·exact l r h
     ·rw[Q9.1 h,j,Sa];exact zo j
theorem vV(g:a<=10000)(h:dC T)(l:T.length<=10000)(e b:Nat)(m:b<=T.length):mU T S a (fU T S a e b).st/\((fU T S a e b).why=0->0<(fU T S a e b).st.length)/\(fU T S a e b).st.length<=100000000:=by
 unfold fU
 split
 ·unfold jQ
  obtain⟨c,d,f⟩:=NU (T:=T) (S:=S) g h b (b-(e+2)) (e+2) (bW T S a) (fun r i=>by
   obtain⟨j,-,k⟩:=yG T S a r i;exact⟨j,by rw[k];simp⟩)
  exact⟨c,d,by omega⟩
 ·obtain⟨c,d,f⟩:=La (T:=T) (S:=S) g b (b-(e+1)) (e+1) [] mU.nil
  exact⟨c,d,by simp at f;omega⟩
theorem Ib(n:a<=10000)(l:dC T)(m:T.length<=10000)(e b:Nat)(q:b<=T.length):Kq T S a (fU T S a e b):=by
 obtain⟨g,s,t⟩:=vV (T:=T) (S:=S) n l m e b q;refine⟨t,fun i=>?_,fun h=>⟨s h,fun i c d=>⟨?_⟩⟩⟩
 ·by_cases c:i<(fU T S a e b).st.length
  ·have:=(g i c).nd;omega
  ·have:bO (fU T S a e b).st i=Ql:=by unfold bO;rw[QQ,Rx (by omega)];rfl
   rw[this];show 0<=100000;omega
 ·rcases(g i c).Vm with h | ⟨h,o⟩ | ⟨r,f,j,k⟩
  ·exact absurd h d
  ·exact Q1 ⟨h,o⟩
  ·refine QV ⟨r,f.1,j,f.2,fun p=>?_⟩
   rw[k];unfold iD;rw[QT (by omega),Sa,QW p]
end
def xC(t:Tk):Prop:=t.s.size<=1024/\0<=t.col/\t.col<=10000
theorem zT:dC []:=fun t a=>by cases a
theorem mh{M:List Tk}(h:dC S)(k:dC M):dC (S++M):=fun t a=>by
 rcases Rr.1 a with e | e
 ·exact h t e
 ·exact k t e
theorem lG(h:xC z7):dC [z7]:=fun u a=>by rw[Q9.1 a];exact h
theorem sH(r:Int)(h:xC z7):xC (qO z7 r):=⟨by show(0:Nat)<=1024;omega,h.2⟩
theorem AG(s:ByteArray)(r:Int)(k:Nat)(b:s.size<=1024)(c:k<=1024):xC (me I a s r k):=by
 have:=zL a k;exact⟨b,by show 0<=bm a k;omega,by show bm a k<=10000;omega⟩
theorem Dr(c:dC l)(d:n<=b)(e:b<=1024):dC (je I a n b l):=by
 unfold je
 split
 ·exact c
 ·exact mh c (lG (AG I a _ 0 n (by rw[Tw];omega) (by omega)))
theorem Dp(i:Nat)(c:i<=1024):dC (jd I a i):=by
 induction i with
 | zero=>exact zT
 | succ i b =>
  rw[jd]
  split
  ·exact Dr I a _ i _ (b (by omega)) (oh a i) (by omega)
  ·exact b (by omega)
theorem Kg(b:a.size<=1024):dC (ij I a):=by
 unfold ij
 split
 ·next i h =>
  have c:i<a.size:=Ra.1 (Rz h);exact mh (Dp I a i (by omega)) (lG (AG I a _ 1 i (by show(0:Nat)<=1024;omega) (by omega)))
 ·exact mh (Dr I a _ _ _ (Dp I a _ b) (oh a _) b) (lG (AG I a _ 0 _ (by show(0:Nat)<=1024;omega) b))
theorem wg(h:xC z7)(k:dC S):dC (z7 :: S):=fun u a=>by
 rcases Rj.1 a with e | e
 ·rw[e];exact h
 ·exact k u e
theorem KG(b:Bool)(L:List Tk)(h:dC L):dC (bQ b L):=by
 induction L generalizing b with
 | nil=>cases b <;> exact zT
 | cons t L c =>
  have d:xC t:=h t (Rn ..);have a:dC L:=fun u f=>h u (Rm _ f)
  have e:∀r,xC ⟨⟨#[]⟩,r,t.file,t.line,t.col⟩:=fun r=>⟨by show(0:Nat)<=1024;omega,d.2⟩
  cases b
  ·rw[bQ]
   split
   ·exact c true a
   ·exact wg d (c false a)
  ·rw[bQ]
   split
   ·exact wg d (c true a)
   ·split
    ·exact c false a
    ·split
     ·exact wg (e 3) (c true a)
     ·split
      ·exact lG (e 2)
      ·exact c true a
theorem Jp(f:∀k e c,dC c->dC (z3 k e c).1)(v:Fs)(n:Nat):∀L,L.length<=n->dC L->∀e c,dC c->dC (cv z3 v L e c).1:=by
 induction n with
 | zero =>
  intro L l _ e c d
  cases L with
  | nil=>rw[cv];exact d
  | cons _ _=>simp at l
 | succ n p =>
  intro L l q e c d
  cases L with
  | nil=>rw[cv];exact d
  | cons t r =>
   have m:xC t:=q t (Rn ..);have j:dC r:=fun u o=>q u (Rm _ o)
   have g:r.length<=n:=by simpa using l
   rw[cv.eq_def];simp only
   split
   ·split
    ·exact d
    ·exact mh d (lG (sH 7 m))
   ·split
    ·exact p r g j e _ (mh d (lG m))
    ·split
     ·exact mh d (lG (sH 4 m))
     ·cases r with
      | nil=>exact d
      | cons a r =>
       have s:xC a:=j a (Rn ..)
       cases r with
       | nil=>exact mh d (lG (sH _ s))
       | cons b r =>
        have w:xC b:=j b (Rm _ (Rn ..));have i:dC r:=fun u o=>j u (Rm _ (Rm _ o))
        have h:r.length<=n:=by simp at g;omega
        simp only
        split
        ·exact mh d (lG (sH _ s))
        ·split
         ·exact mh d (lG (sH _ w))
         ·split
          ·exact p r h i e c d
          ·split
           ·exact f _ e c d
           ·exact p r h i _ _ (f _ e c d)
theorem Jt(b:∀k,(ak H k).size<=1024)(n:Nat):∀k d a,dC a->dC (dQ H n k d a).1:=by
 induction n with
 | zero=>intro k d a c;exact c
 | succ n e =>
  intro k d a c;rw[dQ];exact Jp _ e H _ _ (QR _) (KG _ _ (Kg _ _ (b k))) _ _ c
theorem BG(a:∀b,(ak H b).size<=1024):dC (cC H b).1:=by
 have h:dC (pt H b):=Jt H a _ _ _ _ zT;unfold cC
 split
 ·exact fun t c=>h t (TP _ c)
 ·exact h
def zP(T:List Tk)(S:List Sm)(j:Nat):Nat:=(au S j).h+(bu T (au S j).h).length
theorem Qm(p:ByteArray->Bool)(L:List ByteArray)(h:∃x∈L,p x=false):(L.takeWhile p).length<L.length/\p (L.getD (L.takeWhile p).length ⟨#[]⟩)=false/\∀q,q<(L.takeWhile p).length->p (L.getD q ⟨#[]⟩)=true:=by
 induction L with
 | nil=>obtain⟨x,f,-⟩:=h;cases f
 | cons a L j =>
  cases b:p a
  ·rw[List.takeWhile_cons,QT (by rw[b];simp)]
   exact⟨by simp,b,fun q d=>by simp at d⟩
  ·rw[List.takeWhile_cons,QW b]
   obtain⟨k,g,i⟩:=j (by
    obtain⟨x,f,c⟩:=h
    rcases Rj.1 f with e | e
    ·rw[e,b]at c;cases c
    ·exact⟨x,e,c⟩)
   refine⟨by simp;omega,g,fun q d=>?_⟩
   cases q with
   | zero=>exact b
   | succ q=>exact i q (by simpa using d)
theorem Px(P:vE S d w)(m:((au d w).k.toList == [36,112])=true) :
  (au d w).h<=zP S d w/\((tS S (zP S d w)).toList == [36,61])=true/\(∀q,(au d w).h<=q->q<zP S d w->((tS S q).toList == [36,61])=false)/\zP S d w<(au d w).z-1:=by
 have r:=P.zt;have p:=P.pos;have f:=P.le;have a:=P.cl;have n:=pF S (au d w).h ((au d w).z-1) f (by omega)
 have l:aJ (fa S (au d w).h ((au d w).z-1)) ⟨#[36,61]⟩=true:=by
  unfold ip at a
  split at a
  ·cases a
  ·split at a
   ·cases a
   ·cases e:aJ (fa S (au d w).h ((au d w).z-1)) ⟨#[36,61]⟩
    ·rw[m,e,QW (by decide)]at a;cases a
    ·rfl
 obtain⟨y,o,j⟩:=RC.1 l
 have c:∃x∈fa S (au d w).h ((au d w).z-1),kB x=false:=by
  refine⟨y,o,?_⟩;unfold kB;have e:y.toList=(⟨#[36,61]⟩:ByteArray).toList:=by simpa using j
  rw[e];decide +kernel
 obtain⟨g,b,i⟩:=Qm kB _ c;rw[<-xj P]at g b i;rw[n]at g;unfold zP;refine⟨by omega,?_,fun q s t=>?_,by omega⟩
 ·rw[se S _ _ _ (by omega) (by omega)]at b
  unfold kB at b;simpa using b
 ·have:=i (q-(au d w).h) (by omega)
  rw[se S _ _ _ (by omega) (by omega),show(au d w).h+(q-(au d w).h)=q by omega]at this;unfold kB at this;simpa using this
def Qf(T:List Tk)(S:List Sm)(a:Nat):jS:=fU T S a (zP T S a) ((au S a).z-1)
def JJ(T:List Tk)(S:List Sm)(a:Nat):ik:=mR T S a (Qf T S a) (T.getD ((au S a).z-1) jf)
theorem A6.keptS(h:A6 f z0 w d)(k:ab zb f y)(m:∀g,z0=some ⟨g,0,none⟩->g∉zb):A6 y z0 w d:=by
 refine⟨h.1,fun j t n=>?_⟩;obtain⟨g,e,a,b,c,i,l⟩:=h.2 j t n;have q:∀o,y.cell? ⟨g,o,none⟩=f.cell? ⟨g,o,none⟩:=fun o=>Q6 (k.block g a (m g e))
 exact⟨g,e,QX a k.size,by rw[q];exact b,by rw[q];exact c,by rw[q];exact i,by rw[q];exact l⟩
theorem fz.off{n:Option Addr}(h:fz f w S z0 g d y0 M)(u:f.heap[T]?=some (.cells #[.slice n y5 y6,i,o,D,z5] 85 (0,0)))(k:ab [T] f y):fz y w S z0 g d y0 M:=by
 have v:f.cell? ⟨T,0,none⟩=some (.slice n y5 y6):=by rw[aa u];rfl
 refine⟨k.get h.d (fun r=>?_),?_,?_⟩
 ·simp at r
  subst r;have:=h.d.symm.trans u;simp at this
 ·cases q:S with
  | nil=>rw[q]at h;exact⟨h.t.1,fun j t m=>by simp at m⟩
  | cons t L =>
   rw[q]at h;refine h.t.keptS k (fun l e b=>?_);simp at b;subst b;obtain⟨l,c,-,a,-⟩:=h.t.2 0 t rfl;rw[c]at e;cases e;rw[UT]at a;rw[v]at a;cases a
 ·cases p:d with
  | nil=>rw[p]at h;exact⟨h.s.1,fun j t m=>by simp at m⟩
  | cons t L =>
   rw[p]at h;refine h.s.keptS k (fun l e b=>?_);simp at b;subst b;obtain⟨l,c,-,a,-⟩:=h.s.2 0 t rfl;rw[c]at e;cases e;rw[UT]at a;rw[v]at a;cases a
theorem Eo(g:Option Addr)(x:Nat)(f:Option Addr)(v:Nat)(D:Option Addr)(F c:Nat)(C G H:Value)(w:World)(E:w.heap[n]?=some (.cells #[.slice D F c,C,.pointer (some ⟨b,0,none⟩),G,H] 85 (0,0)))(N:fz w b l g x (aj l) f v)(t:l.length<=10000)(y:dC l)(d:∀q,q<l.length->bh l (aj l) q=0) :
  Calls prog 57 #[.pointer (some ⟨n,0,none⟩)] w fun e V=>Kn l (aj l) n b (.slice D F c) C (Qf l (aj l)) (JJ l (aj l)) w e V:=by
 have p:=fw l;have W:(aj l).length<=l.length:=oG l l.length;have s:∀m,ab [n] w m->fz m b l g x (aj l) f v:=fun m k=>N.off E k
 have j:∀a,tY (aj l) a=true->bS (au (aj l) a).k=false:=fun a h=>fX h (by decide)
 refine En n b l g x (aj l) f v _ C G H _ _ w E s (by omega) (J9 l t d _ (QR _)).ok.a ?_ ?_ ?_
 ·intro a o u m B
  have P:=oQ p d a o (j a u);obtain⟨I,J,K,L⟩:=Px P u;have:=P.pos;have:=P.zt;exact DR b a (zP l (aj l) a) ((au (aj l) a).z-1) l g x _ f v m (s m B) (J9 l t d a (by omega)) o (qz P) y I J K (by omega) L (by omega) P.dot
 ·intro a o u A m B R
  have P:=oQ p d a o (j a u);have:=P.pos;have:=P.zt;exact AL b a ((au (aj l) a).z-1) l g x _ f v (Qf l (aj l) a) A m (s m B) (J9 l t d a (by omega)) (PZ p d a (by omega)) (Qx p d a (by omega)) o (qz P) ((J9 l t d _ (QR _)).ok.a a o) (by omega) (by omega) R (Ib (by omega) y t _ _ (by omega))
 ·intro a o u
  have P:=oQ p d a o (j a u);have:=P.zt;obtain⟨T,-,U⟩:=vV (T:=l) (S:=aj l) (a:=a) (by omega) y t (zP l (aj l) a) ((au (aj l) a).z-1) (by omega);refine⟨U,fun i O=>?_⟩
  show(bO (fU l (aj l) a (zP l (aj l) a) ((au (aj l) a).z-1)).st i).ref<=(a:Int)
  rcases(T i O).Vm with h | ⟨h,-⟩ | ⟨r,Q,M,-⟩
  ·rw[h];omega
  ·rw[h];omega
  ·rw[M];have:=Q.1;omega
theorem E0(i:∀k d c,d[k]?=some false->(z3 k d c).1.length+2000*aQ (z3 k d c).2<=c.length+2000*aQ d)(f:Fs)(n:Nat):∀L,L.length<=n->∀d c,(cv z3 f L d c).1.length+2000*aQ (cv z3 f L d c).2<=c.length+L.length+2000*aQ d:=by
 induction n with
 | zero =>
  intro L l d c
  cases L with
  | nil=>rw[cv];simp
  | cons _ _=>simp at l
 | succ n o =>
  intro L l d c
  cases L with
  | nil=>rw[cv];simp
  | cons t r =>
   have g:r.length<=n:=by simpa using l
   rw[cv.eq_def];simp only[List.length_cons]
   split
   ·split
    ·simp only;omega
    ·simp only[List.length_append,List.length_cons,List.length_nil];omega
   ·split
    ·have:=o r g d (c++[t])
     rw[Q0,Rp,Rs]at this;omega
    ·split
     ·simp only[List.length_append,List.length_cons,List.length_nil];omega
     ·cases r with
      | nil=>simp only;omega
      | cons a r =>
       cases r with
       | nil=>simp only[List.length_append,List.length_cons,List.length_nil];omega
       | cons b r =>
        have h:r.length<=n:=by simp at g;omega
        simp only[List.length_cons]
        split
        ·simp only[List.length_append,List.length_cons,List.length_nil];omega
        ·split
         ·simp only[List.length_append,List.length_cons,List.length_nil];omega
         ·split
          ·have:=o r h d c
           omega
          ·next j =>
           have m:d[(bF f a.s).toNat]?=some false:=by
            rw[QQ]at j
            cases e:d[(bF f a.s).toNat]? with
            | none=>rw[e]at j;exact absurd rfl j
            | some x=>rw[e]at j;cases x;rfl;exact absurd rfl j
           have p:=i (bF f a.s).toNat d c m
           split
           ·omega
           ·have:=o r h (z3 (bF f a.s).toNat d c).2 (z3 (bF f a.s).toNat d c).1
            omega
theorem E2(c:∀k,(ak H k).size<=1024)(n:Nat):∀k b a,b[k]?=some false->(dQ H n k b a).1.length+2000*aQ (dQ H n k b a).2<=a.length+2000*aQ b:=by
 induction n with
 | zero=>intro k b a _;rw[dQ];simp
 | succ n e =>
  intro k b a d;rw[dQ];have f:=E0 (dQ H n) e H _ (qV H k) (QR _) (b.set k true) a;have g:=Df H k;have h:=lC b k d;have i:=c k;omega
theorem Ii(d:H.length<=4)(a:∀b,(ak H b).size<=1024)(e:b<H.length):(cC H b).1.length<=10000:=by
 have h:=E2 H a H.length b (List.replicate H.length false) [] (by rw[Sf,QW e]);rw[mP]at h;have c:(pt H b).length<=10000:=by unfold pt;simp at h;omega
 unfold cC
 split
 ·rw[SF];omega
 ·exact c
structure OH(w:World)(v:Nat)(fs:Fs)(h:Hd)(T:List Tk)(lo hi b:Nat)(aT:Option Addr)(cT:Nat)(aS:Option Addr)(cS:Nat)(PS:List (jS×Hd))(h1:Hd)(RS:List ik)(h2:Hd):Prop where
 rv:fB w v fs h true (.pointer (some ⟨b,0,none⟩)) (.slice h1.ao PS.length h1.cap) (.slice h2.ao RS.length h2.cap)
 db:fz w b T aT cT (aj T) aS cS
 ps:PS.map (·.1)=(List.range (aj T).length).map (xM (aj T) (Qf T (aj T)))
 fin:pv (aj T) PS ((List.range (aj T).length).map (oO T (aj T) (JJ T (aj T)))) RS (aj T).length
 s1:aw w h1 (fP PS)
 s2:aw w h2 (fM RS)
 sq:∀x∈PS,cm w x.2.ao 6 kV x.1.st
 nb:lo<=b/\b<hi
 nT:∀g,aT=some ⟨g,0,none⟩->lo<=g/\g<hi
 nS:∀g,aS=some ⟨g,0,none⟩->lo<=g/\g<hi
 n1:∀g,h1.blk=some g->lo<=g/\g<hi
 n2:∀g,h2.blk=some g->lo<=g/\g<hi
 nq:∀x∈PS,∀g,x.2.ao=some ⟨g,0,none⟩->lo<=g/\g<hi
def xF(w:World)(v:Nat)(fs:Fs)(h:Hd)(T:List Tk)(lo hi:Nat):Prop:=∃b aT cT aS cS PS h1 RS h2,OH w v fs h T lo hi b aT cT aS cS PS h1 RS h2
theorem xF.kept(a:xF f w x k S T g)(h:ab zb f y)(B:w∉zb)(z:∀q,k.blk=some q->q∉zb)(A:∀q,T<=q->q<g->q∉zb):xF y w x k S T g:=by
 obtain⟨b,o,r,n,p,l,u,m,v,a⟩:=a;have q:∀c,T<=c/\c<g->c∉zb:=fun c i=>A c i.1 i.2
 exact⟨b,o,r,n,p,l,u,m,v,{ a with
  rv:=a.rv.keptS h B z
  db:=⟨h.get a.db.d (q b a.nb),a.db.t.keptS h (fun c e=>q c (a.nT c e)),a.db.s.keptS h (fun c e=>q c (a.nS c e))⟩
  s1:=a.s1.Vg (fun c e=>h.block c (a.s1.lt e) (q c (a.n1 c e)))
  s2:=a.s2.Vg (fun c e=>h.block c (a.s2.lt e) (q c (a.n2 c e)))
  sq:=fun i j=>(a.sq i j).keptS h (fun c e=>q c (a.nq i j c e)) }⟩
theorem xF.rvAt(a:xF f w x k S T g):∃c d e,fB f w x k true c d e:=by
 obtain⟨b,l,n,j,m,h,o,i,p,a⟩:=a;exact⟨_,_,_,a.rv⟩
theorem Mf{X:World}{h:List (jS×Hd)}{p:List ik}{m:Hd}(b:vD f y w T i o h N p m)(j:fz y T S z0 y5 (aj S) y0 y6)(E:fB X w x k true (.pointer (some ⟨T,0,none⟩)) (.slice N.ao h.length N.cap) (.slice m.ao p.length m.cap))(K:ab [w,g] y X)(I:w<M)(G:g<M)(u:M<=f.heap.size)(v:M<=T)(r:∀a,z0=some ⟨a,0,none⟩->M<=a/\a<y.heap.size)(nS:∀a,y0=some ⟨a,0,none⟩->M<=a/\a<y.heap.size)(D:h.map (·.1)=(List.range (aj S).length).map (xM (aj S) (Qf S (aj S))))(l:pv (aj S) h ((List.range (aj S).length).map (oO S (aj S) (JJ S (aj S)))) p (aj S).length):xF X w x k S M X.heap.size:=by
 have z:=K.size;have q:∀a,M<=a->a∉[w,g]:=fun a H F=>by simp at F;omega
 have A:∀a,N.blk=some a->M<=a/\a<X.heap.size:=fun a e=>⟨Q3 u (b.f1 a e),QX (b.o1.lt e) z⟩
 have B:∀a,m.blk=some a->M<=a/\a<X.heap.size:=fun a e=>⟨Q3 u (b.f2 a e),QX (b.o2.lt e) z⟩
 have C:∀c∈h,∀a,c.2.ao=some ⟨a,0,none⟩->M<=a/\a<X.heap.size:=fun c n a e=>⟨Q3 u ((b.q c n).2 a e).1,QX (b.ql c n a e) z⟩
 exact⟨T,z0,y5,y0,y6,h,N,p,m,{
  rv:=E
  db:=⟨K.get j.d (q T v),j.t.keptS K (fun a e=>q a (r a e).1),j.s.keptS K (fun a e=>q a (nS a e).1)⟩
  ps:=D
  fin:=l
  s1:=b.o1.Vg (fun a e=>K.block a (b.o1.lt e) (q a (A a e).1))
  s2:=b.o2.Vg (fun a e=>K.block a (b.o2.lt e) (q a (B a e).1))
  sq:=fun c n=>(b.q c n).1.keptS K (fun a e=>q a (C c n a e).1)
  nb:=⟨v,QX (ae j.d) z⟩
  nT:=fun a e=>⟨(r a e).1,QX (r a e).2 z⟩
  nS:=fun a e=>⟨(nS a e).1,QX (nS a e).2 z⟩
  n1:=A
  n2:=B
  nq:=C }⟩
def Qu(fs:Fs)(k v:Nat)(h:Hd)(f:pA)(c:Int)(w:World)(e:Ending)(w':World):Prop :=
 e=.returned (.tuple #[gU f,.int .i64 c])/\((c=0->∃lo,w.heap.size<=lo/\xF w' v fs h (cC fs k).1 lo w'.heap.size)/\(c≠0->∃p2 p3 p4,fB w' v fs h false p2 p3 p4))/\ab [v] w w'
theorem fB.keptV{on':Bool}(a:fB f w x k z2 i o D)(d:ab [w] f y)(c:y.heap[w]?=some (.cells #[.slice k.ao x.length k.cap,.bool on',z5,y7,y8] 85 (0,0))):fB y w x k on' z5 y7 y8 :=
 ⟨c,a.own.Vg (fun q b=>d.block q (a.own.lt b) (by simp;intro e;rw[e]at b;exact a.far b)),a.far,a.le⟩
theorem sD(h:∀j,j<x.length->(ak x j).size<=1024)(k:Nat):(ak x k).size<=1024:=by
 by_cases a:k<x.length
 ·exact h k a
 ·unfold ak;rw[QQ,Rx (by omega)];show(0:Nat)<=1024;omega
theorem fB.Vk(a:fB f w x k z2 i o D)(e:w≠T)(c:∀q,k.blk=some q->q≠T)(b:Nat)(u:Value):fB (f.setCell ⟨T,b,none⟩ u) w x k z2 i o D :=
 ⟨((ab.refl [T] f).setCell (Q1 (by simp)) _).get a.d (by simp;exact e),a.own.Vk c b u,a.far,a.le⟩
theorem vo{c u0 u1 u2 u3:Value}(d:y.heap[w]?=some (.cells #[z5,y7,y8,c] 87 (0,0)))(g:fB y T x k z2 i o D)(l:T<w)(h:∀q,k.blk=some q->q<w)(e:ab [T] f y)(b:f.heap.size<=w) :
  ((((y.setCell ⟨w,0,none⟩ u0).setCell ⟨w,1,none⟩ u1).setCell ⟨w,2,none⟩ u2).setCell ⟨w,3,none⟩ u3).heap[w]?=some (.cells #[u0,u1,u2,u3] 87 (0,0))/\fB ((((y.setCell ⟨w,0,none⟩ u0).setCell ⟨w,1,none⟩ u1).setCell ⟨w,2,none⟩ u2).setCell ⟨w,3,none⟩ u3) T x k z2 i o D/\ab [T] f ((((y.setCell ⟨w,0,none⟩ u0).setCell ⟨w,1,none⟩ u1).setCell ⟨w,2,none⟩ u2).setCell ⟨w,3,none⟩ u3):=by
 refine⟨ah (ah (ah (ah d 0 u0) 1 u1) 2 u2) 3 u3,?_,(((e.setCell (QV b) _).setCell (QV b) _).setCell (QV b) _).setCell (QV b) _⟩;have a:∀q,k.blk=some q->q≠w:=fun q j=>by have:=h q j;omega
 exact(((g.Vk (by omega) a _ _).Vk (by omega) a _ _).Vk (by omega) a _ _).Vk (by omega) a _ _
theorem mz(h:f.heap[w]?=some (.cells #[i,o,D,z5] 87 (0,0))) :
  (f.cell? ⟨w,0,none⟩=some i/\f.cell? ⟨w,1,none⟩=some o/\f.cell? ⟨w,2,none⟩=some D/\f.cell? ⟨w,3,none⟩=some z5)/\(f.frozen? ⟨w,0,none⟩=false/\f.frozen? ⟨w,1,none⟩=false/\f.frozen? ⟨w,2,none⟩=false/\f.frozen? ⟨w,3,none⟩=false)/\w<f.heap.size:=by
 refine⟨⟨?_,?_,?_,?_⟩,⟨am h 0,am h 1,am h 2,am h 3⟩,ae h⟩
 all_goals (rw[aa h];rfl)
theorem v8(d:H.length<=4)(f:∀j,j<H.length->(ak H j).size<=1024)(l:b<H.length)(h:((yp (cC H b).1 (aj (cC H b).1)).rule==0)=true)(c:((cC H b).2.rule==0)=true):fE H b=cY/\∀q,q<(cC H b).1.length->bh (cC H b).1 (aj (cC H b).1) q=0:=by
 obtain⟨e,g⟩:=v7 H b d f l
 have m:(fE H b).1=0:=by
  unfold fE;rw[QT (by rw[h];simp)];exact TR c
 refine⟨?_,(g (by rw[e,m];rfl)).1.u⟩
 have k:(cC H b).2=jf:=by
  unfold cC at c ⊢
  split
  ·next a =>
   rw[QW a]at c;unfold eu at a
   cases i:(pt H b).getLast? with
   | none=>rw[i]at a;cases a
   | some t =>
    rw[i]at a c;simp only[Option.getD_some]at c;simp only at a;rw[c]at a
    cases a
  ·rfl
 unfold fE;rw[QT (by rw[h];simp),k];rfl
set_option maxRecDepth 100000
theorem xZ(h:Hd)(t:Bool)(u v x:Value)(n:ByteArray)(w:World)(f:fB w L H h t u v x)(I:bF H n<0) :
  Calls prog 37 #[.pointer (some ⟨L,0,none⟩),.string n] w fun e y=>e=.returned (.tuple #[gU cY,.int .i64 5])/\ab [] w y:=by
 obtain⟨W,j⟩:∃W,Hid (w.alloc (.cells #[.int .i64 0,.string ⟨#[]⟩,.int .i64 0,.int .i64 0] 87)=W):=⟨_,rfl⟩
 have b:Hid (ab [] w W):=by show ab [] w W;rw[<-j.out];exact(ab.refl [] _).alloc _
 have k:Hid (W.heap[w.heap.size]?=some (.cells #[.int .i64 0,.string ⟨#[]⟩,.int .i64 0,.int .i64 0] 87 (0,0))):=by show _=_;rw[<-j.out];exact QS _ _
 have a:Hid _:=f.Vb b.out;have i:Hid _:=(mu H h.ao h.cap n W (by have:=f.le;omega) a.out.own.srcFi);have J:W.cell? ⟨L,0,none⟩=some (.slice h.ao H.length h.cap):=by rw[aa a.out.d];rfl
 have K:=ae a.out.d;obtain⟨⟨D,E,F,G⟩,⟨z,A,B,C⟩,N⟩:=mz k.out;have c:Hid (L<w.heap.size/\∀q,h.blk=some q->q<w.heap.size):=⟨ae f.d,fun q s=>f.own.lt s⟩;clear f;go_enter func37,ntmps37
 go_upto_region 1 with fail
 rw[j.out];go_wp2_with (go_at_call 35;refine QU i.out ?_;rintro e M ⟨rfl,g⟩;rw[g];clear g);obtain⟨l,-,-⟩:=vo (u0:=.int .i64 0) (u1:=.string ⟨#[]⟩) (u2:=.int .i64 0) (u3:=.int .i64 0) k.out a.out c.out.1 c.out.2 (oB b.out) (QR _);obtain⟨⟨m,o,p,r⟩,-,-⟩:=mz l;exact QY (v:=.tuple #[.agg #[.int .i64 0,.string ⟨#[]⟩,.int .i64 0,.int .i64 0],.int .i64 5]) (by simp[results,results37,go_sem,m,o,p,r]) rfl ⟨rfl,(((b.out.setCell (QV (QR _)) _).setCell (QV (QR _)) _).setCell (QV (QR _)) _).setCell (QV (QR _)) _⟩
theorem AQ(c:Fs)(h:Hd)(on:Bool)(p2 p3 p4:Value)(ch:ByteArray)(w:World)(hR:fB w n c h on p2 p3 p4)(hf:bF c ch=(b:Int))(hk:b<c.length)(X:∀j,j<c.length->(ak c j).size<=1024) :
  Calls prog 37 #[.pointer (some ⟨n,0,none⟩),.string ch] w fun e w'=>Qu c b n h (fE c b) (if((fE c b).1==0)=true then 0 else 6) w e w':=by
 unfold Qu;have ax:=hR.le;obtain⟨cb,l⟩:=h;obtain⟨gf,ar,cf,-⟩:=hR.own.srcFi.2 b hk;replace ar:cb=some ⟨gf,0,none⟩:=ar;subst ar;obtain⟨W,HW⟩:∃W,Hid (w.alloc (.cells #[.int .i64 0,.string ⟨#[]⟩,.int .i64 0,.int .i64 0] 87)=W):=⟨_,rfl⟩
 have ba:Hid (ab [] w W):=by show ab [] w W;rw[<-HW.out];exact(ab.refl [] _).alloc _
 have BF:Hid (W.heap[w.heap.size]?=some (.cells #[.int .i64 0,.string ⟨#[]⟩,.int .i64 0,.int .i64 0] 87 (0,0))):=by show _=_;rw[<-HW.out];exact QS _ _
 have y:Hid _:=hR.Vb ba.out;have a6:Hid _:=(mu c (some ⟨gf,0,none⟩) l ch W (by omega) y.out.own.srcFi);rw[hf]at a6;have v0:W.cell? ⟨n,0,none⟩=some (.slice (some ⟨gf,0,none⟩) c.length l):=by rw[aa y.out.d];rfl
 have v1:W.cell? ⟨n,1,none⟩=some (.bool on):=by rw[aa y.out.d];rfl
 have e1:=am y.out.d 1;have vz:=ae y.out.d;have k:Hid (n<w.heap.size/\∀q,(⟨some ⟨gf,0,none⟩,l⟩:Hd).blk=some q->q<w.heap.size):=⟨ae hR.d,fun q hq=>hR.own.lt hq⟩;obtain⟨C,R⟩:∃C,Hid (W.setCell ⟨n,1,none⟩ (.bool false)=C):=⟨_,rfl⟩
 have G:Hid (fB C n c ⟨some ⟨gf,0,none⟩,l⟩ false p2 p3 p4):=by show fB _ _ _ _ _ _ _ _;rw[<-R.out];exact y.out.off
 have ai:Hid (ab [n] w C):=by show ab _ _ _;rw[<-R.out];exact(oB ba.out).setCell (Q1 (by simp)) _
 have az:Hid (C.heap[w.heap.size]?=some (.cells #[.int .i64 0,.string ⟨#[]⟩,.int .i64 0,.int .i64 0] 87 (0,0))):=by
  show _=_
  rw[<-R.out];exact((ab.refl [n] _).setCell (Q1 (by simp)) _).get BF.out (by have:=k.out.1;simp;omega)
 have P:Hid _:=Ij c gf l b C ax (sD X) hk G.out.own.srcFi (G.out.own.lt rfl);have cj:C.cell? ⟨n,0,none⟩=some (.slice (some ⟨gf,0,none⟩) c.length l):=by rw[aa G.out.d];rfl
 have ck:=ae G.out.d;have Q:Hid _:=BG c b (sD X);have z:Hid _:=Ii c b ax (sD X) hk;have E:Hid _:=v8 c b ax X hk;have x:Hid (fE c b=if((yp (cC c b).1 (aj (cC c b).1)).rule==0)=false then Lj (yp (cC c b).1 (aj (cC c b).1)) else Lj (cC c b).2):=rfl;obtain⟨f,Hf⟩:∃f,Hid (fE c b=f):=⟨_,rfl⟩
 rw[Hf.out]at x E ⊢;obtain⟨cc,U⟩:∃cc,Hid ((if(f.1==0)=true then(0:Int) else 6)=cc):=⟨_,rfl⟩
 rw[U.out];obtain⟨⟨T,t⟩,b6⟩:∃Tt,Hid (cC c b=Tt):=⟨_,rfl⟩
 rw[b6.out]at P Q z E x ⊢;simp only at P Q z E x ⊢;obtain⟨u,Hu⟩:∃u,Hid (yp T (aj T)=u):=⟨_,rfl⟩
 rw[Hu.out]at E x;have cl:¬(b:Int)<0:=by omega
 have bj:Hid (∀i,(tS T i).size<=1073741824):=fun i=>by
  unfold tS;rw[QQ]
  cases e:T[i]? with
  | none=>show(0:Nat)<=_;omega
  | some t=>have:=(Q.out t (R4 e)).1;show t.s.size<=_;omega
 clear hR cf hf;go_enter func37,ntmps37
 go_upto_region 1 with fail
 rw[HW.out]
 go_upto_region 5 with (go_at_call 35;refine QU a6.out ?_;rintro e w9 ⟨rfl,bl⟩;rw[bl];clear bl)
 rw[R.out];clear v0 v1 e1 vz;obtain⟨ts,tr,tf,tl,tc⟩:=t;obtain⟨us,ur,uf,ul,uc⟩:=u;simp only at P
 go_upto_region 6 with (go_at_call 54;refine QU P.out ?_;rintro e w7 ⟨aT,cT,rfl,sT,k7,n7⟩)
 obtain⟨D,K⟩:∃D,Hid (w7.alloc (.cells #[.int .i64 tr,.string tf,.int .i64 tl,.int .i64 tc] 87)=D):=⟨_,rfl⟩
 have a7:Hid (ab [] C D):=by show ab _ _ _;rw[<-K.out];exact k7.alloc _
 have bs:Hid (D.heap[w7.heap.size]?=some (.cells #[.int .i64 tr,.string tf,.int .i64 tl,.int .i64 tc] 87 (0,0))):=by show _=_;rw[<-K.out];exact QS _ _
 have S:Hid (w7.heap.size<=D.heap.size/\C.heap.size<=D.heap.size):=⟨by rw[<-K.out];simp,a7.out.size⟩;have bc:Hid _:=n7;have b5:Hid _:=(LJ T aT cT D (lj.Vb sT (by rw[<-K.out];exact(ab.refl [] _).alloc _)) (by have:=z.out;omega) bj.out);rw[K.out];clear sT k7 cj ck n7
 go_upto_region 7 with (go_at_call 55;refine QU b5.out ?_;rintro e w9 ⟨rfl,aS,cS,d9,k9,n9⟩)
 have ag:Hid _:=(we D.heap.size T aT cT (aj T) aS cS w9 d9 (by have:=z.out;omega) (Ot T (by have:=z.out;omega)) bj.out);rw[Hu.out]at ag;simp only at ag;have be:Hid (∀g,aT=some ⟨g,0,none⟩->C.heap.size<=g/\g<w9.heap.size):=fun g M=>⟨(bc.out g M).1,QX (bc.out g M).2 (Q3 S.out.1 k9.size)⟩
 have bd:Hid (∀g,aS=some ⟨g,0,none⟩->C.heap.size<=g/\g<w9.heap.size):=fun g M=>⟨Q3 S.out.2 (n9 g M).1,(n9 g M).2⟩
 have b2:Hid _:=a7.out.trans k9;have bv:Hid _:=(k9.get bs.out (by simp));have ca:Hid _:=k9.size;have bx:Hid _:=d9;clear d9 k9 n9
 go_upto_region 8 with (go_at_call 56;refine QU ag.out ?_;rintro e br ⟨rfl,bp⟩)
 obtain⟨o,H⟩:∃o,Hid (br.alloc (.cells #[.int .i64 ur,.string uf,.int .i64 ul,.int .i64 uc] 87)=o):=⟨_,rfl⟩
 have a1:Hid (o.heap[br.heap.size]?=some (.cells #[.int .i64 ur,.string uf,.int .i64 ul,.int .i64 uc] 87 (0,0))):=by show _=_;rw[<-H.out];exact QS _ _
 have v:Hid (ab [] w9 o):=by show ab _ _ _;rw[<-H.out];exact bp.alloc _
 have F:Hid _:=b2.out.trans v.out;have a4:Hid _:=fz.Vb bx.out v.out;have bw:Hid _:=(v.out.get bv.out (by simp));have a:Hid _:=G.out.Vb F.out;have O:Hid _:=(F.out.get az.out (by simp));have al:Hid _:=ai.out.trans (oB F.out);rw[H.out];clear bp;obtain⟨⟨u0,u1,u2,u3⟩,-,uz⟩:=mz a1.out;obtain⟨⟨t0,t1,t2,t3⟩,-,tz⟩:=mz bw.out;obtain⟨⟨g0,g1,g2,g3⟩,⟨f0,f1,f2,f3⟩,wz⟩:=mz O.out
 cases hu:(ur==0)
 ·have HX:Hid (f=(ur,⟨uf,ul,uc⟩)):=by show _=_;rw[x.out];exact QW hu
  have HC:Hid (cc=6):=by show _=_;rw[<-U.out,HX.out];exact QT (fun q=>by have q':(ur==0)=true:=q;rw[hu]at q';cases q')
  go_wp2;obtain⟨B1,R1,K1⟩:=vo (u0:=.int .i64 ur) (u1:=.string uf) (u2:=.int .i64 ul) (u3:=.int .i64 uc) O.out a.out k.out.1 k.out.2 al.out (QR _);obtain⟨⟨c0,c1,c2,c3⟩,-,-⟩:=mz B1;exact QY (v:=.tuple #[.agg #[.int .i64 ur,.string uf,.int .i64 ul,.int .i64 uc],.int .i64 6]) (by simp[results,results37,go_sem,c0,c1,c2,c3]) rfl (by rw[HC.out,HX.out];exact⟨rfl,⟨(fun q=>by cases q),fun _=>⟨_,_,_,R1⟩⟩,K1⟩)
 ·cases ht:(tr==0)
  ·have HX:Hid (f=(tr,⟨tf,tl,tc⟩)):=by show _=_;rw[x.out];exact QT (fun q=>by have q':(ur==0)=false:=q;rw[hu]at q';cases q')
   have HC:Hid (cc=6):=by show _=_;rw[<-U.out,HX.out];exact QT (fun q=>by have q':(tr==0)=true:=q;rw[ht]at q';cases q')
   go_wp2;obtain⟨B1,R1,K1⟩:=vo (u0:=.int .i64 tr) (u1:=.string tf) (u2:=.int .i64 tl) (u3:=.int .i64 tc) O.out a.out k.out.1 k.out.2 al.out (QR _);obtain⟨⟨c0,c1,c2,c3⟩,-,-⟩:=mz B1;exact QY (v:=.tuple #[.agg #[.int .i64 tr,.string tf,.int .i64 tl,.int .i64 tc],.int .i64 6]) (by simp[results,results37,go_sem,c0,c1,c2,c3]) rfl (by rw[HC.out,HX.out];exact⟨rfl,⟨(fun q=>by cases q),fun _=>⟨_,_,_,R1⟩⟩,K1⟩)
  ·obtain⟨bk,ad⟩:=E.out hu ht
   have a0:Hid _:=ad;have HX:Hid _:=bk;have HC:Hid (cc=0):=by show _=_;rw[<-U.out,HX.out];rfl
   clear bk ad;have x2:o.cell? ⟨n,2,none⟩=some p2:=by rw[aa a.out.d];rfl
   have y2:=am a.out.d 2;have vz:=ae a.out.d;have V:=ah a.out.d 2 (.pointer (some ⟨D.heap.size,0,none⟩));obtain⟨A,I⟩:∃A,Hid (o.setCell ⟨n,2,none⟩ (.pointer (some ⟨D.heap.size,0,none⟩))=A):=⟨_,rfl⟩
   rw[I.out]at V;have m:Hid (ab [n] o A):=by show ab _ _ _;rw[<-I.out];exact(ab.refl [n] _).setCell (Q1 (by simp)) _
   have Z:Hid _:=fz.off a4.out a.out.d m.out;have a2:Hid _:=(m.out.get O.out (by have:=k.out.1;simp;omega));have ac:Hid _:=fB.keptV (on':=false) a.out m.out V;have bT:Hid _:=Eo n D.heap.size T aT cT aS cS _ _ _ _ _ _ A V Z.out z.out Q.out a0.out;clear V
   go_upto_region 13 with fail
   rw[I.out];clear x2 y2 vz u0 u1 u2 u3 uz t0 t1 t2 t3 tz g0 g1 g2 g3 f0 f1 f2 f3 wz
   go_upto_region 14 with (go_at_call 57;refine QU bT.out ?_;rintro e N ⟨PS,j1,j2,RS,rfl,bo,af,jw⟩)
   have a3:Hid _:=(jw.kept.get a2.out (by have:=k.out.1;simp;omega));have B:=jw.d;have L:=jw.kept;have bf:Hid _:=fB.keptV (on':=false) ac.out L B;have b3:Hid _:=(al.out.trans m.out).trans L;have b1:Hid _:=jw;have b0:Hid _:=bo;have bz:Hid _:=af;have a5:Hid _:=fz.off Z.out ac.out.d L;have an:Hid (w9.heap.size<=A.heap.size/\A.heap.size<=N.heap.size/\D.heap.size<=w9.heap.size):=⟨Q3 v.out.size m.out.size,L.size,ca.out⟩;have x1:N.cell? ⟨n,1,none⟩=some (.bool false):=by rw[aa B];rfl
   have y1:=am B 1;have vz:=ae B;have ap:=ah B 1 (.bool true);obtain⟨ao,J⟩:∃ao,Hid (N.setCell ⟨n,1,none⟩ (.bool true)=ao):=⟨_,rfl⟩
   rw[J.out]at ap;have r:Hid (ab [n] N ao):=by show ab _ _ _;rw[<-J.out];exact(ab.refl [n] _).setCell (Q1 (by simp)) _
   have bg:Hid _:=fB.keptV (on':=true) bf.out r.out ap;have Y:Hid _:=(r.out.get a3.out (by have:=k.out.1;simp;omega));have b4:Hid _:=b3.out.trans r.out;clear jw bo af B L ap
   go_upto_region 15 with fail
   rw[J.out];clear x1 y1 vz;obtain⟨⟨g0,g1,g2,g3⟩,⟨f0,f1,f2,f3⟩,wz⟩:=mz Y.out;go_wp2;obtain⟨B1,R1,K1⟩:=vo (u0:=.int .i64 0) (u1:=.string ⟨#[]⟩) (u2:=.int .i64 0) (u3:=.int .i64 0) Y.out bg.out k.out.1 k.out.2 b4.out (QR _);have KX:ab [n,w.heap.size] N _:=((((r.out.mono (S':=[n,w.heap.size]) (fun q hq _=>by rw[Q9.1 hq];exact Rn)).setCell (p:=⟨w.heap.size,0,none⟩) (Q1 (by simp)) (.int .i64 0)).setCell (p:=⟨w.heap.size,1,none⟩) (Q1 (by simp)) (.string ⟨#[]⟩)).setCell (p:=⟨w.heap.size,2,none⟩) (Q1 (by simp)) (.int .i64 0)).setCell (p:=⟨w.heap.size,3,none⟩) (Q1 (by simp)) (.int .i64 0);obtain⟨⟨c0,c1,c2,c3⟩,-,-⟩:=mz B1;exact QY (v:=.tuple #[.agg #[.int .i64 0,.string ⟨#[]⟩,.int .i64 0,.int .i64 0],.int .i64 0]) (by simp[results,results37,go_sem,c0,c1,c2,c3]) rfl (by rw[HC.out,HX.out];exact⟨rfl,⟨fun _=>⟨C.heap.size,ai.out.size,Mf b1.out a5.out R1 KX (QX k.out.1 ai.out.size) (ae az.out) (by have:=S.out;have:=an.out;omega) S.out.2 (fun g M=>⟨(be.out g M).1,by have:=(be.out g M).2;have:=an.out;omega⟩) (fun g M=>⟨(bd.out g M).1,by have:=(bd.out g M).2;have:=an.out;omega⟩) b0.out bz.out⟩,fun q=>absurd rfl q⟩,K1⟩)
theorem DZ(h:b<n):aE (H.take n) b=aE H b/\ak (H.take n) b=ak H b:=by
 unfold aE ak;rw[QQ,Tj,QW h,QQ];exact⟨rfl,rfl⟩
theorem mV.take(h:mV f z0 w x)(k:Nat)(e:k<=x.length):mV f z0 w (x.take k):=by
 have b:(x.take k).length=k:=by rw[RQ];omega
 refine⟨by rw[b];exact Q3 e h.1,fun j a=>?_⟩;rw[b]at a;obtain⟨c,d⟩:=DZ x k j a;rw[c,d];exact h.2 j (by omega)
theorem Le(h:mV f (some ⟨w,0,none⟩) T x)(j:Nat)(u:Value)(a:(qK x)[j]?=some u):f.cell? ⟨w,j,none⟩=some u:=by
 have k:j<x.length*2:=by
  rw[<-vn];exact(Q8.1 a).1
 obtain⟨i,e,-,b,c⟩:=h.2 (j / 2) (by omega)
 cases e
 obtain⟨d,g⟩:=v9 x (j / 2) (by omega)
 rcases UB j with e | e
 ·rw[show j / 2*2=j by omega]at b d
  rw[d]at a;rw[b,<-a]
 ·rw[show j / 2*2+1=j by omega]at c g
  rw[g]at a;rw[c,<-a]
def PB(w:World)(v:Nat)(h:Hd)(fs:Fs)(p2 p3 p4:Value)(r:Int)(w':World):Prop:=(r=0->∃h',fB w' v fs h' false p2 p3 p4/\ab (v :: h.blk.toList) w w'/\∀b,h'.blk=some b->h.blk=some b∨w.heap.size<=b)/\(r≠0->ab [] w w')
theorem PB.stay{r:Int}(a:r≠0)(b:ab [] f y):PB f w k x i o D r y:=⟨fun e=>absurd e a,fun _=>b⟩
theorem fB.newRow{b:Fs}(a:fB f w x k z2 i o D)(p:ab [] f y)(h:aw y N (cr b))(l:∀q,N.blk=some q->f.heap.size<=q)(m:b.length<=4)(n:T=b.length):fB (y.setCell ⟨w,0,none⟩ (.slice N.ao T N.cap)) w b N z2 i o D:=by
 have j:=p.get a.d (by simp);have t:=ae a.d;have c:N.blk≠some w:=fun s=>by have:=l w s;omega
 have r:ab [w] y (y.setCell ⟨w,0,none⟩ (.slice N.ao T N.cap)):=(ab.refl _ _).setCell (Q1 (by simp)) _;subst n;exact⟨by rw[ah j];rfl,h.Vg (fun q g=>r.block q (h.lt g) (by simp;intro e;exact c (by rw[<-e];exact g))),c,m⟩
theorem Ev(a:Fs)(h:Hd)(on:Bool)(p2 p3 p4:Value)(E:Option Addr)(i:Nat)(w:World)(hR:fB w L H h on p2 p3 p4)(hS:mV w E i a)(hn:E=none->a.length=0/\i=0)(ha:∀A,E=some A->∃g,A=⟨g,0,none⟩)(R:∀j,j<a.length->(aE a j).size<=1073741824/\(ak a j).size<=1073741824) :
  Calls prog 31 #[.pointer (some ⟨L,0,none⟩),.slice E a.length i] w fun e p=>e=.returned (.int .i64 (dy a))/\PB w L h (jt H a) p2 p3 p4 (dy a) p:=by
 have HR:Hid _:=hR
 by_cases h4:4<a.length
 ·have G:Hid (dy a=1):=by show _=_;unfold dy;rw[QW h4]
  rw[G.out];have ap:(4:Int)<(a.length:Int):=by omega
  clear hR;go_enter func31,ntmps31;go_wp2;go_ret;exact⟨rfl,PB.stay (by decide) (ab.refl _ _)⟩
 ·have G:Hid (dy a=dJ (Dx a) a.length):=by show _=_;unfold dy;rw[QT h4]
  obtain⟨r,Hr⟩:∃r,Hid (dy a=r):=⟨_,rfl⟩
  rw[Hr.out]at G ⊢;have ap:¬(4:Int)<(a.length:Int):=by omega
  have W:Hid _:=hS;have HN:Hid _:=hn;have Y:Hid _:=ha;have K:Hid _:=R;obtain⟨iF,aT,T,U,V⟩:=Re zZ;clear hR hS hn ha R;go_enter func31,ntmps31;go_wp2
  go_loopg [5] a.length (fun g iv wr=>∃k:Nat,k<=a.length/\g=a.length-k/\iv=.int .i64 k/\Hid (dJ (Dx a) k=0)/\Hid (ab [] w wr))
  case atStart=>exact⟨0,by omega,rfl,rfl,rfl,ab.refl _ _⟩
  case round =>
   obtain⟨k,hk,hg,rfl,HZ,t⟩:=hrel
   by_cases x:k<a.length
   ·have a3:(k:Int)<(a.length:Int):=by omega
    have a2:(0:Int)<=(k:Int):=by omega
    have a1:=W.out.1;obtain⟨B,rfl,v,c0,c1⟩:=(mV.Vb W.out t.out).2 k x;have HC:Hid (∀p,ab [] wr p->p.cell? ⟨B,k*2,none⟩=some (.string (aE a k))/\p.cell? ⟨B,k*2+1,none⟩=some (.string (ak a k))/\B<p.heap.size):=fun p kw=>⟨by rw[Q6 (kw.block B v (by simp))];exact c0,by rw[Q6 (kw.block B v (by simp))];exact c1,QX v kw.size⟩
    have y:Hid (∀s,ab [] wr s->Calls prog 35 #[.slice (some ⟨B,0,none⟩) k i,.string (aE a k)] s fun e p=>e=.returned (.int .i64 (bF (a.take k) (aE a k)))/\p=s):=fun s kx=>by
     have hl:(a.take k).length=k:=by rw[RQ];omega
     have:=mu (a.take k) (some ⟨B,0,none⟩) i (aE a k) s (by omega) (mV.take (mV.Vb W.out (t.out.trans kx)) k hk);rw[hl]at this;exact this
    have F:Hid (∀s,Calls prog 34 #[.string (aE a k),.string (ak a k)] s fun e p=>e=.returned (.int .i64 (cJ (aE a k) (ak a k)))/\p=s):=fun s=>BE _ _ s (K.out k x).1 (by have:=(K.out k x).2;omega)
    have l:Hid (Dx a k=if(cJ (aE a k) (ak a k)==0)=false then cJ (aE a k) (ak a k) else if 0<=bF (a.take k) (aE a k) then 4 else 0):=rfl;have J:Hid ((Dx a k==0)=false->r=Dx a k):=fun q=>by rw[G.out];exact ou HZ.out q x
    have Z:Hid (Dx a k=0->dJ (Dx a) (k+1)=0):=fun q=>by rw[dJ,HZ.out];exact q
    generalize aE a k=nm at *;generalize ak a k=dt at *;obtain⟨M,al⟩:∃M,Hid (cJ nm dt=M):=⟨_,rfl⟩
    rw[al.out]at F l;obtain⟨fi,an⟩:∃fi,Hid (bF (a.take k) nm=fi):=⟨_,rfl⟩
    rw[an.out]at y l
    go_upto_region 6 with fail
    go_region_with (go_at_call 34;refine(F.out _).mono ?_;rintro e D ⟨rfl,a0⟩)
    all_goals
     subst a0;obtain⟨D,H9⟩:∃D,Hid (wr.drew=D):=⟨_,rfl⟩
     rw[H9.out];have f:Hid (ab [] wr D):=by show ab _ _ _;rw[<-H9.out];exact(ab.refl [] wr).drew
     clear c0 c1 v
     cases c:(M==0)
     ·rw[c,QW rfl]at l
      have o:Hid _:=(J.out (by rw[l.out];exact c));rw[l.out]at o;have aS:(M != 0)=true:=by unfold bne;rw[c];rfl
      go_wp2;go_ret;exact⟨QN o.out.symm,PB.stay (by rw[o.out];exact fun q=>by rw[q]at c;cases c) (t.out.trans f.out)⟩
     ·rw[c,QT (by simp)]at l
      have aS:(M != 0)=false:=by unfold bne;rw[c];rfl
      obtain⟨d0,d1,d2⟩:=HC.out D f.out
      by_cases P:0<=fi
      ·rw[QW P]at l
       have o:Hid _:=(J.out (by rw[l.out];rfl));rw[l.out]at o
       go_upto_region 9 with fail
       go_region_with (go_at_call 35;refine(y.out _ (by exact f.out.drew)).mono ?_;rintro e w8 ⟨rfl,C⟩)
       all_goals
        subst C;have z:Hid (ab [] w D.drew):=(t.out.trans f.out).drew;go_wp2;go_ret;exact⟨QN o.out.symm,PB.stay (by rw[o.out];decide) z.out⟩
      ·rw[QT P]at l
       have HM:Hid _:=Z.out l.out
       go_upto_region 9 with fail
       go_region_with (go_at_call 35;refine(y.out _ (by exact f.out.drew)).mono ?_;rintro e w8 ⟨rfl,C⟩)
       all_goals
        subst C;have z:Hid (ab [] w D.drew):=(t.out.trans f.out).drew;go_wp2
        go_roundg (a.length-(k+1))
        case measure=>omega
        case rel=>exact⟨k+1,by omega,rfl,by go_num,HM,z⟩
   ·have e:k=a.length:=by omega
    subst e;have o:Hid (r=0):=by show _=_;rw[G.out];exact HZ.out
    have a4:¬(a.length:Int)<(a.length:Int):=by omega
    have I:Hid _:=HR.out.Vb t.out;have ax:aw wr ⟨none,0⟩ (cr []):=QZ _ _ _ _;have ag:Hid _:=mV.Vb W.out t.out
    have az:Hid (∀A,E=some A->∀j u,(qK a)[j]?=some u->wr.cell? (A.add j)=some u):=fun A e j u hu=>by
     obtain⟨g,rfl⟩:=Y.out A e;rw[bL];exact Le (by rw[<-e];exact ag.out) j u hu
    have ar:Hid ((cr ([]:Fs)).n+a.length<=1000000000):=by show 0+a.length<=_;omega
    have af:Hid (∀m:Nat,(cr ([]:Fs)).n+m=m):=fun m=>SJ m
    go_upto_region 12 with fail
    go_wp2_with (at_builtin;refine ed _ rfl (.const (.slice none 0 0)) (.tmp 43) 33 rfl iF (.agg #[.string ⟨#[]⟩,.string ⟨#[]⟩]) 32 ⟨none,0⟩ (cr []) underlying33 aT T U V rfl Uq rfl ax E a.length i (qK a) rfl (vn a) HN.out az.out (Gj a) ar.out (by omega) ?_;intro h5 w5 S Q;have K5:ab [] wr w5:=(Q.kept.mono (by simp[Hd.blk]));have N:=K5.get I.out.d (by simp);have v0:w5.cell? ⟨L,0,none⟩=some (.slice h.ao H.length h.cap):=(by rw[aa N];rfl);have v1:w5.cell? ⟨L,1,none⟩=some (.bool on):=(by rw[aa N];rfl);have e0:=am N 0;have e1:=am N 1;have vz:=ae N);go_ret
    have er:(⟨(cr []).e,(cr []).size,(cr []).n+a.length,(cr []).xs++qK a⟩:dN)=cr a:=by
     show dN.mk _ _ (0+a.length) ([]++qK a)=_
     rw[SJ];rfl
    rw[er]at S
    have O:∀q,h5.blk=some q->wr.heap.size<=q:=by
     intro q X
     rcases Q.blk with e | ⟨g,e,hg⟩
     ·rw[e]at X;cases X
     ·rw[e]at X;cases X;exact hg
    have ac:=(I.out.newRow K5 S O (by omega) (af.out a.length)).off;have ai:Hid _:=yO (fs0:=H) (Hr.out.trans o.out);exact⟨QN o.out.symm,by rw[ai.out];exact⟨fun _=>⟨h5,ac,(((t.out.trans K5).mono (by simp)).setCell (Q1 (by simp)) _).setCell (Q1 (by simp)) _,fun b hb=>QV (Q3 t.out.size (O b hb))⟩,fun q=>absurd o.out q⟩⟩
end Go.Proofs.YtpddjjabfbfifaaGreat

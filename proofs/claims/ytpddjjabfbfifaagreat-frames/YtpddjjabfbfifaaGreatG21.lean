import Derived.Test.YtpddjjabfbfifaaGreatG18
import Derived.Test.YtpddjjabfbfifaaGreatG20
namespace Go.Proofs.YtpddjjabfbfifaaGreat
open Go.RowKit Tryz
set_option maxRecDepth 100000
set_option maxHeartbeats 40000000
variable{v z4:ByteArray}{w T g M y5 y6:Nat}{z1:List ByteArray}{S:List Tk}{z7:Tk}{d:List Sm}{f y:World}{z0 y0:Option Addr}{zb:List Nat}{i o D z5 y7 y8:Value}{x:Fs}{k N:Hd}{z2:Bool}(z6:List Tk)(L:Nat)(H:Fs)(I a:ByteArray)(n b:Nat)(l:List Tk)(z3:Nat->List Bool->List Tk->List Tk×List Bool)
theorem iW{l m:List UInt8}(h:(v.toList==l)=true):(v.toList==m)=(l==m):=by
 have:v.toList=l:=by simpa using h
 rw[this]
section
variable {T:List Tk} {S:List Sm} {f:Nat}
structure vE(T:List Tk)(S:List Sm)(j:Nat):Prop where
 le:(au S j).h<=(au S j).z-1
 zt:(au S j).z<=T.length
 pos:0<(au S j).z
 dot:((tS T ((au S j).z-1)).toList == [36,46])=true
 cl:ip (au S j).k (fa T (au S j).h ((au S j).z-1))=0
 w:∀q,(au S j).h<=q->q<(au S j).z-1->lW T S (au S j).k (tS T q) j (fa T (au S j).h q)=0/\bS (tS T q)=false
theorem oQ(p:Dt T T.length S f)(b:∀q,q<T.length->bh T S q=0)(j:Nat)(h:j<S.length)(t:bS (au S j).k=false):vE T S j:=by
 have u:=GT p j h;obtain⟨P,o⟩:=p.s j h
 have c:(au S j).h<=(au S j).z-1->(au S j).a<(au S j).h->vE T S j:=fun l w=>by
  have A:=P.lt;have r:=b ((au S j).z-1) (by omega);rw[u ((au S j).z-1) (by omega) (by omega),QT (by omega),QT (by omega)]at r;obtain⟨E,B⟩:=wU P.e r;refine⟨l,o,by omega,E,B,fun q G x=>?_⟩;have Q:=b q (by omega);rw[u q (by omega) (by omega),QT (by omega),QT (by omega)]at Q;exact⟨Q,P.n q (by omega) x⟩
 have d:=P.k;have F:=P.lt;unfold ew at d
 by_cases g:(ii (tS T (au S j).a) ⟨#[36]⟩||decide (T.length<=(au S j).a+1))=true
 ·rw[QW g]at d
  have m:(au S j).k=tS T (au S j).a:=congrArg Prod.fst d;have y:(au S j).h=(au S j).a+1:=congrArg Prod.snd d;refine c ?_ (by omega)
  by_cases D:(au S j).z-1=(au S j).a
  ·have:=P.e
   rw[D,<-m,t]at this
   cases this
  ·omega
 ·rw[QT g]at d
  have m:(au S j).k=tS T ((au S j).a+1):=congrArg Prod.fst d;have y:(au S j).h=(au S j).a+2:=congrArg Prod.snd d
  have i:ii (tS T (au S j).a) ⟨#[36]⟩=false:=by
   cases e:ii (tS T (au S j).a) ⟨#[36]⟩
   ·rfl
   ·rw[e]at g;exact absurd rfl g
  refine c ?_ (by omega)
  have v:(au S j).z-1≠(au S j).a:=fun e=>by
   have:=(kM P.e).1;rw[e,i]at this;cases this
  have C:(au S j).z-1≠(au S j).a+1:=fun e=>by
   have:=P.e;rw[e,<-m,t]at this;cases this
  omega
theorem se(a:L+b<n)(c:n<=z6.length):(fa z6 L n).getD b ⟨#[]⟩=tS z6 (L+b):=by
 unfold fa tS;rw[QQ,Rq,Tj,QW (by omega),SV,QQ];rw[QP (by omega)];rfl
theorem pF(a:n<=b)(c:b<=z6.length):(fa z6 n b).length=b-n:=by
 unfold fa;rw[Ri,RQ,RT];omega
theorem xj(P:vE T S w):bu T (au S w).h=(fa T (au S w).h ((au S w).z-1)).takeWhile kB:=by
 have i:=P.zt;have g:=P.pos;have d:=P.le;unfold bu
 have e:T.drop (au S w).h=(T.drop (au S w).h).take ((au S w).z-1-(au S w).h)++(T.getD ((au S w).z-1) jf) :: T.drop (au S w).z:=by
  conv=>lhs;rw[<-Ul ((au S w).z-1-(au S w).h) (T.drop (au S w).h)]
  rw[List.drop_drop,show(au S w).h+((au S w).z-1-(au S w).h)=(au S w).z-1 by omega,Ge T ((au S w).z-1) (by omega),show(au S w).z-1+1=(au S w).z by omega]
 rw[e,show ∀(L:List Tk) (t:Tk) (M:List Tk),L++t :: M=(L++[t])++M from fun L t M=>by simp,yk]
 ·rw[vO _ _ (fun u a=>?_) P.dot]
  ·rfl
  ·obtain⟨q,c,b⟩:=R0 a
   rw[RQ,RT]at c;have:=(P.w ((au S w).h+q) (by omega) (by omega)).2;unfold bS at this;simp only[Bool.or_eq_false_iff]at this
   have f:u.s=tS T ((au S w).h+q):=by
    rw[<-b,List.getElem_take,TI];unfold tS;rw[QQ,QP (by omega)];rfl
   rw[f];exact this.1.1
 ·exact⟨T.getD ((au S w).z-1) jf,by simp,tA P.dot⟩
theorem qz(P:vE T S w):cU T (au S w).h:=⟨(au S w).z-1,P.le,by have:=P.zt;have:=P.pos;omega,tA P.dot⟩
theorem vu(h:lW T S v z4 w z1=0)(a:(z4.toList == [36,61])=true):(v.toList == [36,112])=true/\aJ z1 ⟨#[36,61]⟩=false/\z1.length≠0:=by
 unfold lW at h;rw[iW a (m:=[36,46]),QT (by decide),a,Sv]at h
 cases b:(v.toList == [36,112])
 ·rw[b,TQ,QT (by simp),QW (by rw[oD a];decide +kernel)]at h;cases h
 ·cases c:aJ z1 ⟨#[36,61]⟩
  ·rw[b,c]at h
   by_cases d:z1.length=0
   ·rw[QW (by rfl),QW d]at h;cases h
   ·exact⟨rfl,rfl,d⟩
  ·rw[b,c,QT (by decide),QW (by rw[oD a];decide +kernel)]at h;cases h
end
section
variable {T:List Tk} {S:List Sm} {f:Nat}
theorem zG:fa z6 b b=[]:=by unfold fa;rw[RY];simp
theorem vx(P:vE T S w):0<(fa T (au S w).h ((au S w).z-1)).length/\(((au S w).k.toList == [36,102])=true->1<(fa T (au S w).h ((au S w).z-1)).length):=by
 have a:=P.cl;unfold ip at a
 split at a
 ·cases a
 ·next e =>
  split at a
  ·cases a
  ·next c =>
   refine⟨by omega,fun d=>?_⟩;have:¬(fa T (au S w).h ((au S w).z-1)).length<2:=fun b=>c (by rw[d];simp[b])
   omega
theorem zF(b:w<=T)(a:T<=T.length)(d:aJ (fa T w T) v=true):∃q,w<=q/\q<T/\tS T q=v:=by
 unfold aJ at d;obtain⟨y,g,e⟩:=RC.1 d;obtain⟨q,c,i⟩:=R0 g;rw[pF T w T b a]at c;refine⟨w+q,by omega,by omega,?_⟩;have f:=se T w T q (by omega) a;rw[QQ,QP (by rw[pF T w T b a];exact c)]at f;have h:(fa T w T)[q]=tS T (w+q):=f;rw[<-h,i];have:y.toList=v.toList:=by simpa using e
 apply U4
 apply Un.1
 rw[<-RZ,<-RZ,this]
theorem ut(P:vE T S w)(c:((au S w).k.toList == [36,112])=false):bu T (au S w).h=fa T (au S w).h ((au S w).z-1):=by
 rw[xj P];refine vp _ ?_
 cases e:aJ (fa T (au S w).h ((au S w).z-1)) ⟨#[36,61]⟩
 ·rfl
 ·have i:=P.zt
  have f:=P.pos;obtain⟨q,a,b,d⟩:=zF P.le (by omega) e;have g:=(P.w q a b).1;have:=(vu g (by rw[d];decide +kernel)).1;rw[c]at this;cases this
theorem uq(P:vE T S w):((tS T (au S w).h).toList == [36,61])=false/\(au S w).h<(au S w).z-1:=by
 have b:=(vx P).1;have f:=P.zt;have c:=P.pos;rw[pF T _ _ P.le (by omega)]at b;have a:(au S w).h<(au S w).z-1:=by omega
 refine⟨?_,a⟩
 cases e:((tS T (au S w).h).toList == [36,61])
 ·rfl
 ·have d:=(P.w _ (QR _) a).1
  have:=(vu d e).2.2;rw[zG]at this;exact absurd rfl this
theorem zk(P:vE T S w):0<(bu T (au S w).h).length/\(bu T (au S w).h).getD 0 ⟨#[]⟩=tS T (au S w).h:=by
 obtain⟨c,f⟩:=uq P;have g:=P.zt;have a:=se T (au S w).h ((au S w).z-1) 0 (by omega) (by omega);have b:=(vx P).1;rw[xj P];rw[Tg]at a;generalize fa T (au S w).h ((au S w).z-1)=B at *
 cases B with
 | nil=>simp at b
 | cons x B =>
  have e:x=tS T (au S w).h:=a;have d:kB x=true:=by unfold kB;rw[e,c];rfl
  rw[SN d];exact⟨by simp,e⟩
theorem PZ(p:Dt T T.length S f)(b:∀q,q<T.length->bh T S q=0)(n:Nat)(g:n<=S.length):Kk T S n:=fun j i c=>by
 have a:bS (au S j).k=false:=by
  unfold aC aG at c;simp only[Bool.or_eq_true]at c
  rcases c with (h | h) | (h | h) <;> exact fX h (by decide)
 have P:=oQ p b j (by omega) a;refine⟨(zk P).1,fun e=>?_⟩;have d:((au S j).k.toList == [36,112])=false:=by rw[iW e];decide
 show 1<(bu T (au S j).h).length
 rw[ut P d];exact(vx P).2 e
theorem wV(h:lW T S v z4 w z1=0)(a:bS z4=false)(c:(z4.toList == [36,61])=false)(d:aJ z1 ⟨#[36,61]⟩=false):(if((v.toList == [36,99])||(v.toList == [36,118]))=true then jW T S z4 w (v.toList == [36,99]) z1 else jm T S v z4 w z1)=0:=by
 unfold lW at h
 have b:(z4.toList == [36,46])=false:=by
  unfold bS at a;simp only[Bool.or_eq_false_iff]at a;exact a.1.1
 rw[b,c,d,QT (by simp),TQ,QT (by simp)]at h
 split at h
 ·cases h
 ·exact h
theorem MI(P:vE T S w)(c:(aC (au S w).k||aG (au S w).k)=true):eF T S (tS T (au S w).h) w=true:=by
 obtain⟨e,f⟩:=uq P;obtain⟨d,i⟩:=P.w _ (QR _) f;rw[zG]at d;have b:=wV d i e rfl
 have a:(((au S w).k.toList == [36,99])||((au S w).k.toList == [36,118]))=false/\((au S w).k.toList == [36,100])=false:=by
  unfold aC aG at c;simp only[Bool.or_eq_true]at c
  rcases c with (h | h) | (h | h) <;> (rw[iW h,iW h,iW h];decide)
 rw[a.1,QT (by simp)]at b;unfold jm at b;rw[a.2,QT (by simp),QW (by rfl)]at b
 cases g:eF T S (tS T (au S w).h) w
 ·rw[g,QW rfl]at b;cases b
 ·rfl
theorem P0(P:vE T S w)(a:((au S w).k.toList == [36,102])=true):kZ T S (tS T ((au S w).h+1)) w=true/\(bu T (au S w).h).getD 1 ⟨#[]⟩=tS T ((au S w).h+1):=by
 have g:=(vx P).2 a;have p:=P.zt;have l:=P.pos;rw[pF T _ _ P.le (by omega)]at g;have b:((au S w).k.toList == [36,112])=false:=by rw[iW a];decide
 have i:=se T (au S w).h ((au S w).z-1) 1 (by omega) (by omega);refine⟨?_,by rw[ut P b];exact i⟩;obtain⟨f,o⟩:=P.w ((au S w).h+1) (by omega) (by omega)
 have m:((tS T ((au S w).h+1)).toList == [36,61])=false:=by
  cases e:((tS T ((au S w).h+1)).toList == [36,61])
  ·rfl
  ·have:=(vu f e).1
   rw[b]at this;cases this
 have d:fa T (au S w).h ((au S w).h+1)=[tS T (au S w).h]:=by
  have:=Be T (au S w).h (au S w).h (QR _) (by omega);rw[zG]at this;exact this
 have n:aJ (fa T (au S w).h ((au S w).h+1)) ⟨#[36,61]⟩=false:=by
  rw[d,ru];have e:(⟨#[36,61]⟩:ByteArray).toList=[36,61]:=by decide +kernel
  rw[e];exact(uq P).1
 have c:=wV f o m n;rw[iW a,iW a,QT (by decide)]at c;unfold jm at c;rw[d,iW a,QT (by decide),QT (by simp),a,QW rfl,QT (by simp)]at c
 cases j:kZ T S (tS T ((au S w).h+1)) w
 ·rw[j,QW rfl]at c;cases c
 ·rfl
theorem Ct(p:Dt T T.length S f)(k:∀q,q<T.length->bh T S q=0)(hi:w<=S.length)(hk:T<=S.length)(r:eF T S v w=true)(s:kZ T S v T=true):False:=by
 unfold eF jq at r;unfold kZ jq at s;obtain⟨j,t,D⟩:=RC.1 r;obtain⟨m,G,u⟩:=RC.1 s;have t:=Ra.1 t;have G:=Ra.1 G;unfold pG at D u;rw[nR.1,Rg,Rg]at D;rw[nR.2,Rg,Rg]at u;obtain⟨n,K,-⟩:=D;obtain⟨A,J,-⟩:=u
 have b:∀(j:Nat),j<S.length->(((au S j).k.toList == [36,99])=true∨((au S j).k.toList == [36,118])=true)->aJ (bu T (au S j).h) v=true->∃B,jW T S v j ((au S j).k.toList == [36,99]) B=0:=fun j t a H=>by
  have d:bS (au S j).k=false:=by rcases a with h | h <;> exact fX h (by decide)
  have P:=oQ p k j t d;have o:((au S j).k.toList == [36,112])=false:=by rcases a with h | h <;> (rw[iW h];decide)
  rw[ut P o]at H;have hz:=P.zt;have Y:=P.pos;obtain⟨q,x,F,e⟩:=zF P.le (by omega) H;obtain⟨V,U⟩:=P.w q x F
  have c:∀q,(au S j).h<=q->q<(au S j).z-1->((tS T q).toList == [36,61])=false:=fun q r s=>by
   cases e:((tS T q).toList == [36,61])
   ·rfl
   ·have:=(vu (P.w q r s).1 e).1
    rw[o]at this;cases this
  have O:aJ (fa T (au S j).h q) ⟨#[36,61]⟩=false:=by
   cases M:aJ (fa T (au S j).h q) ⟨#[36,61]⟩
   ·rfl
   ·obtain⟨R,Q,a2,L⟩:=zF x (by omega) M
    have:=c R Q (by omega);rw[L]at this;exact absurd this (by decide +kernel)
  have I:=wV V U (c q x F) O;rw[QW (by rcases a with h | h <;> rw[h] <;> simp),e]at I;exact⟨_,I⟩
 obtain⟨B1,g⟩:=b j (by omega) (Q1 n) K;obtain⟨Z,i⟩:=b m (by omega) (QV A) J;have l:((au S m).k.toList == [36,99])=false:=by rw[iW A];decide
 rw[n]at g;rw[l]at i;unfold jW at g i
 rcases Nat.lt_trichotomy j m with y | E | C
 ·have X:eF T S v m=true:=by
   unfold eF jq;exact mZ j y (by unfold pG;rw[nR.1,n,K];simp)
  rw[X]at i
  split at i
  ·cases i
  ·simp at i
 ·rw[E,l]at n;cases n
 ·have N:jq T S ⟨#[36,118]⟩ v j false=true:=by
   unfold jq;exact mZ m C (by unfold pG;rw[nR.2,A,J];simp)
  have W:jC T S v j=true:=by unfold jC;rw[N];simp
  rw[W]at g
  split at g
  ·cases g
  ·simp at g
theorem Qx(p:Dt T T.length S f)(a:∀q,q<T.length->bh T S q=0)(n:Nat)(z:n<=S.length):OL T S n:=fun r B g=>by
 have P:=oQ p a r (by omega) (by unfold aC at g;rcases RB _ _ ▸ g with h | h <;> exact fX h (by decide));have x:=MI P (by rw[g];rfl);have t:(cI T S r).getD 0 ⟨#[]⟩=tS T (au S r).h:=(zk P).2;rw[t]
 cases e:aJ (gK T S (bW T S r) (bW T S r).length) (tS T (au S r).h)
 ·rfl
 ·exfalso
  unfold aJ at e;obtain⟨y,l,d⟩:=RC.1 e;unfold gK at l;obtain⟨i,m,rfl⟩:=Si.1 l;unfold xO at m;obtain⟨c,b⟩:=RH.1 m;have c:=Ra.1 c;have w:(bW T S r).getD i 0=(bW T S r)[i]:=by rw[QQ,QP c];rfl
  unfold GI at b;rw[w]at b d;have A:=sK T S r (bW T S r)[i] (Rb c);generalize (bW T S r)[i]=j at *;have u:=oQ p a j (by omega) (fX b (by decide));obtain⟨k,v⟩:=P0 u b;have s:cI T S j=bu T (au S j).h:=rfl;rw[s,v]at d
  have o:tS T ((au S j).h+1)=tS T (au S r).h:=by
   have:(tS T ((au S j).h+1)).toList=(tS T (au S r).h).toList:=by simpa using d
   apply U4
   apply Un.1
   rw[<-RZ,<-RZ,this]
  rw[o]at k;exact Ct p a (by omega) (by omega) x k
end
theorem J9(d:l.length<=10000)(a:∀q,q<l.length->bh l (aj l) q=0)(n:Nat)(e:n<=(aj l).length):nK l (aj l) n:=by
 have p:=fw l;have i:(aj l).length<=l.length:=oG l l.length;obtain⟨b,c⟩:=Ao l (by omega) a;have h:nK l (aj l) (aj l).length:=⟨b,by omega,d,fun j g f=>qz (oQ p a j g f),c⟩;exact h.mono e
def FQ(S:List Sm)(a r:Nat):Prop:=r<a/\(aC (au S r).k||aG (au S r).k)=true
structure OK(T:List Tk)(S:List Sm)(a i:Nat)(s:dj):Prop where
 nd:s.need<=10000
 Vm:s.ref=-1∨(s.ref=-2/\s.back<i)∨∃r,FQ S a r/\s.ref=(r:Nat)/\s.need=iD T S (r:Nat)
def mU(T:List Tk)(S:List Sm)(a:Nat)(P:List dj):Prop:=∀i,i<P.length->OK T S a i (bO P i)
section
variable {T:List Tk} {S:List Sm} {a:Nat}
theorem mU.snoc{P:List dj}{s:dj}(h:mU T S a P)(f:OK T S a P.length s):mU T S a (P++[s]):=fun i d=>by
 rw[Q0,Rp,Rs]at d
 by_cases e:i<P.length
 ·have b:bO (P++[s]) i=bO P i:=by unfold bO;rw[QQ,QQ,Q7 e]
  rw[b];exact h i e
 ·have c:i=P.length:=by omega
  have b:bO (P++[s]) i=s:=by unfold bO;rw[c,QQ,Q5 (QR _),RY];rfl
  rw[b,c];exact f
theorem mU.nil:mU T S a []:=fun i b=>by simp at b
theorem Cu(b:a<=10000)(c:w<a):iD T S (w:Nat)<=10000:=by
 unfold iD
 split
 ·omega
 ·split
  ·have:=kj T S (w:Int).toNat
   rw[Sa]at this ⊢;omega
  ·omega
theorem zo(h:eU T S a v=(w:Int)):FQ S a w:=by
 have d:=p9 T S a v;rw[h]at d
 rcases d with e | ⟨q,i,e⟩
 ·omega
 ·have f:w=q:=by omega
  subst f;refine⟨i,?_⟩;unfold eU at h
  split at h
  ·omega
  ·split at h
   ·unfold bE at h
    cases c:(List.range a).find? (qL T S v) with
    | none=>rw[c]at h;simp at h
    | some j =>
     rw[c]at h;have g:j=w:=by have h:(j:Int)=(w:Int):=h;omega
     have b:=Tm c;rw[g]at b;unfold qL at b;rw[Rg]at b
     cases k:(aC (au S w).k||aG (au S w).k)
     ·exfalso
      have:bG T (au S w)=⟨#[]⟩:=by unfold bG;rw[k,QT (by simp)]
      rw[this]at b;exact absurd b.1 (by decide +kernel)
     ·rfl
   ·omega
theorem La(m:a<=10000)(e:Nat)(n:Nat):∀i P,mU T S a P->mU T S a (m9 T S a e n i P).st/\((m9 T S a e n i P).why=0->0<(m9 T S a e n i P).st.length)/\(m9 T S a e n i P).st.length<=P.length+n:=by
 induction n with
 | zero =>
  intro i P d;rw[m9]
  split
  ·exact⟨mU.nil,fun h=>(by cases h),Ro _⟩
  ·exact⟨d,fun _=>(by simp only;omega),(by simp)⟩
 | succ n j =>
  intro i P d;rw[m9]
  split
  ·obtain⟨b,c,f⟩:=j (i+1) _ (d.snoc (s:=⟨-1,0,0,(T.getD i jf).file,(T.getD i jf).line,(T.getD i jf).col⟩) ⟨by show 0<=10000;omega,Q1 rfl⟩)
   exact⟨b,c,by simp at f ⊢;omega⟩
  ·split
   ·exact⟨mU.nil,fun h=>(by cases h),Ro _⟩
   ·next b c =>
    obtain⟨k,g⟩:∃k:Nat,eU T S a (tS T i)=k:=⟨(eU T S a (tS T i)).toNat,by omega⟩
    have l:=zo g;rw[g];obtain⟨b,c,f⟩:=j (i+1) _ (d.snoc (s:=⟨(k:Int),0,iD T S (k:Int),(T.getD i jf).file,(T.getD i jf).line,(T.getD i jf).col⟩) ⟨Cu m l.1,QV (QV ⟨k,l,rfl,rfl⟩)⟩);exact⟨b,c,by simp at f ⊢;omega⟩
theorem Mw(D:a<=10000)(d:List Nat)(n:∀r∈d,FQ S a r)(v:Lt)(L:List Lt):∀P b f g,mU T S a P->(∀t∈b,t<P.length)->(g=true->0<P.length) ->
  mU T S a (nj T S d v L P b f g).st/\((nj T S d v L P b f g).why=0->0<(nj T S d v L P b f g).st.length)/\(nj T S d v L P b f g).st.length<=P.length+L.length:=by
 induction L with
 | nil =>
  intro P b f g o _ _;rw[nj]
  split
  ·exact⟨mU.nil,fun h=>(by cases h),Ro _⟩
  ·split
   ·exact⟨mU.nil,fun h=>(by cases h),Ro _⟩
   ·exact⟨o,fun _=>(by simp only;omega),(by simp)⟩
 | cons l L w =>
  intro P b f g o q A;rw[nj]
  split
  ·obtain⟨i,j,k⟩:=w P b (f++Du l.c) false o q (fun h=>by cases h)
   exact⟨i,j,by simp at k ⊢;omega⟩
  ·split
   ·split
    ·exact⟨mU.nil,fun h=>(by cases h),Ro _⟩
    ·next x =>
     have B:=yS (f++Du l.c) (d.length+b.length);generalize iO (f++Du l.c) (d.length+b.length)=m at *
     have C:OK T S a P.length (rN T S d b m l):=by
      unfold rN
      split
      ·next z =>
       have p:m-1<d.length:=by omega
       have e:d.getD (m-1) 0=d[m-1]:=by rw[QQ,QP p];rfl
       have y:=n d[m-1] (Rb p);rw[e];exact⟨Cu D y.1,QV (QV ⟨_,y,rfl,rfl⟩)⟩
      ·next z =>
       have p:m-d.length-1<b.length:=by omega
       have e:b.getD (m-d.length-1) 0=b[m-d.length-1]:=by rw[QQ,QP p];rfl
       rw[e];exact⟨by show 0<=10000;omega,QV (Q1 ⟨rfl,q _ (Rb p)⟩)⟩
     obtain⟨i,j,k⟩:=w _ b ⟨#[]⟩ true (o.snoc C) (fun t u=>by rw[Q0];have:=q t u;omega) (fun _=>by simp);exact⟨i,j,by simp at k ⊢;omega⟩
   ·split
    ·next x =>
     have E:=A x.2
     obtain⟨i,j,k⟩:=w P (b++[P.length-1]) f false o (fun t u=>by
      rcases Rr.1 u with h | h
      ·exact q t h
      ·rw[Q9.1 h];omega) (fun h=>by cases h)
     exact⟨i,j,by simp at k ⊢;omega⟩
    ·split
     ·obtain⟨i,j,k⟩:=w _ b f false (o.snoc (s:=⟨-1,0,0,l.file,l.line,l.col⟩) ⟨by show 0<=10000;omega,Q1 rfl⟩) (fun t u=>by rw[Q0];have:=q t u;omega) (fun h=>by cases h)
      exact⟨i,j,by simp at k ⊢;omega⟩
     ·exact⟨mU.nil,fun h=>(by cases h),Ro _⟩
theorem NU(p:a<=10000)(o:dC T)(c:Nat)(n:Nat):∀i b,(∀r∈b,FQ S a r)->mU T S a (ve T S a c n i b).st/\((ve T S a c n i b).why=0->0<(ve T S a c n i b).st.length)/\(ve T S a c n i b).st.length<=1024*T.length:=by
 induction n with
 | zero=>intro i b _;rw[ve];exact⟨mU.nil,fun h=>(by cases h),Ro _⟩
 | succ n m =>
  intro i b j;rw[ve]
  split
  ·obtain⟨e,f,l⟩:=Mw (T:=T) p b j (Ez (T.getD c jf)) (eR T (i+1) c) [] [] ⟨#[]⟩ false mU.nil (fun t q=>by cases q) (fun h=>by cases h)
   have:=xg T o (i+1) c;rw[Rs,SJ]at l;exact⟨e,f,by unfold j4;omega⟩
  ·split
   ·exact⟨mU.nil,fun h=>(by cases h),Ro _⟩
   ·split
    ·exact⟨mU.nil,fun h=>(by cases h),Ro _⟩
    ·next e f l =>
     obtain⟨k,g⟩:∃k:Nat,eU T S a (tS T i)=k:=⟨(eU T S a (tS T i)).toNat,by omega⟩
     refine m (i+1) _ (fun r d=>?_)
     rcases Rr.1 d with h | h
     ·exact j r h
     ·rw[Q9.1 h,g,Sa];exact zo g
theorem vV(g:a<=10000)(h:dC T)(l:T.length<=10000)(e b:Nat)(m:b<=T.length):mU T S a (fU T S a e b).st/\((fU T S a e b).why=0->0<(fU T S a e b).st.length)/\(fU T S a e b).st.length<=100000000:=by
 unfold fU
 split
 ·unfold jQ
  obtain⟨c,d,f⟩:=NU (T:=T) (S:=S) g h b (b-(e+2)) (e+2) (bW T S a) (fun r j=>by
   obtain⟨k,-,i⟩:=yG T S a r j;exact⟨k,by rw[i];simp⟩)
  exact⟨c,d,by omega⟩
 ·obtain⟨c,d,f⟩:=La (T:=T) (S:=S) g b (b-(e+1)) (e+1) [] mU.nil
  exact⟨c,d,by simp at f;omega⟩
theorem Ib(t:a<=10000)(q:dC T)(n:T.length<=10000)(e b:Nat)(p:b<=T.length):Kq T S a (fU T S a e b):=by
 obtain⟨f,j,s⟩:=vV (T:=T) (S:=S) t q n e b p;refine⟨s,fun i=>?_,fun h=>⟨j h,fun i c d=>⟨?_⟩⟩⟩
 ·by_cases c:i<(fU T S a e b).st.length
  ·have:=(f i c).nd;omega
  ·have:bO (fU T S a e b).st i=Ql:=by unfold bO;rw[QQ,Rx (by omega)];rfl
   rw[this];show 0<=100000;omega
 ·rcases(f i c).Vm with h | ⟨h,m⟩ | ⟨r,g,k,l⟩
  ·exact absurd h d
  ·exact Q1 ⟨h,m⟩
  ·refine QV ⟨r,g.1,k,g.2,fun o=>?_⟩
   rw[l];unfold iD;rw[QT (by omega),Sa,QW o]
end
def xC(t:Tk):Prop:=t.s.size<=1024/\0<=t.col/\t.col<=10000
theorem zT:dC []:=fun t a=>by cases a
theorem mh{M:List Tk}(h:dC S)(k:dC M):dC (S++M):=fun t a=>by
 rcases Rr.1 a with e | e
 ·exact h t e
 ·exact k t e
theorem lG(h:xC z7):dC [z7]:=fun u a=>by rw[Q9.1 a];exact h
theorem sH(r:Int)(h:xC z7):xC (qO z7 r):=⟨by show(0:Nat)<=1024;omega,h.2⟩
theorem AG(s:ByteArray)(r:Int)(k:Nat)(b:s.size<=1024)(c:k<=1024):xC (me I a s r k):=by
 have:=zL a k;exact⟨b,by show 0<=bm a k;omega,by show bm a k<=10000;omega⟩
theorem Dr(c:dC l)(d:n<=b)(e:b<=1024):dC (je I a n b l):=by
 unfold je
 split
 ·exact c
 ·exact mh c (lG (AG I a _ 0 n (by rw[Tw];omega) (by omega)))
theorem Dp(i:Nat)(c:i<=1024):dC (jd I a i):=by
 induction i with
 | zero=>exact zT
 | succ i b =>
  rw[jd]
  split
  ·exact Dr I a _ i _ (b (by omega)) (oh a i) (by omega)
  ·exact b (by omega)
theorem Kg(b:a.size<=1024):dC (ij I a):=by
 unfold ij
 split
 ·next i h =>
  have c:i<a.size:=Ra.1 (Rz h);exact mh (Dp I a i (by omega)) (lG (AG I a _ 1 i (by show(0:Nat)<=1024;omega) (by omega)))
 ·exact mh (Dr I a _ _ _ (Dp I a _ b) (oh a _) b) (lG (AG I a _ 0 _ (by show(0:Nat)<=1024;omega) b))
theorem wg(h:xC z7)(k:dC S):dC (z7 :: S):=fun u a=>by
 rcases Rj.1 a with e | e
 ·rw[e];exact h
 ·exact k u e
theorem KG(b:Bool)(L:List Tk)(h:dC L):dC (bQ b L):=by
 induction L generalizing b with
 | nil=>cases b <;> exact zT
 | cons t L c =>
  have d:xC t:=h t (Rn ..);have a:dC L:=fun u f=>h u (Rm _ f)
  have e:∀r,xC ⟨⟨#[]⟩,r,t.file,t.line,t.col⟩:=fun r=>⟨by show(0:Nat)<=1024;omega,d.2⟩
  cases b
  ·rw[bQ]
   split
   ·exact c true a
   ·exact wg d (c false a)
  ·rw[bQ]
   split
   ·exact wg d (c true a)
   ·split
    ·exact c false a
    ·split
     ·exact wg (e 3) (c true a)
     ·split
      ·exact lG (e 2)
      ·exact c true a
theorem Jp(f:∀k e c,dC c->dC (z3 k e c).1)(w:Fs)(n:Nat):∀L,L.length<=n->dC L->∀e c,dC c->dC (cv z3 w L e c).1:=by
 induction n with
 | zero =>
  intro L l _ e c d
  cases L with
  | nil=>rw[cv];exact d
  | cons _ _=>simp at l
 | succ n o =>
  intro L l q e c d
  cases L with
  | nil=>rw[cv];exact d
  | cons t r =>
   have p:xC t:=q t (Rn ..);have j:dC r:=fun u m=>q u (Rm _ m)
   have h:r.length<=n:=by simpa using l
   rw[cv.eq_def];simp only
   split
   ·split
    ·exact d
    ·exact mh d (lG (sH 7 p))
   ·split
    ·exact o r h j e _ (mh d (lG p))
    ·split
     ·exact mh d (lG (sH 4 p))
     ·cases r with
      | nil=>exact d
      | cons a r =>
       have s:xC a:=j a (Rn ..)
       cases r with
       | nil=>exact mh d (lG (sH _ s))
       | cons b r =>
        have v:xC b:=j b (Rm _ (Rn ..));have g:dC r:=fun u m=>j u (Rm _ (Rm _ m))
        have i:r.length<=n:=by simp at h;omega
        simp only
        split
        ·exact mh d (lG (sH _ s))
        ·split
         ·exact mh d (lG (sH _ v))
         ·split
          ·exact o r i g e c d
          ·split
           ·exact f _ e c d
           ·exact o r i g _ _ (f _ e c d)
theorem Jt(c:∀k,(ak H k).size<=1024)(n:Nat):∀k d a,dC a->dC (dQ H n k d a).1:=by
 induction n with
 | zero=>intro k d a b;exact b
 | succ n e =>
  intro k d a b;rw[dQ];exact Jp _ e H _ _ (QR _) (KG _ _ (Kg _ _ (c k))) _ _ b
theorem BG(a:∀b,(ak H b).size<=1024):dC (cC H b).1:=by
 have h:dC (pt H b):=Jt H a _ _ _ _ zT;unfold cC
 split
 ·exact fun t c=>h t (TP _ c)
 ·exact h
def zP(T:List Tk)(S:List Sm)(j:Nat):Nat:=(au S j).h+(bu T (au S j).h).length
theorem Qm(p:ByteArray->Bool)(L:List ByteArray)(h:∃x∈L,p x=false):(L.takeWhile p).length<L.length/\p (L.getD (L.takeWhile p).length ⟨#[]⟩)=false/\∀q,q<(L.takeWhile p).length->p (L.getD q ⟨#[]⟩)=true:=by
 induction L with
 | nil=>obtain⟨x,f,-⟩:=h;cases f
 | cons a L j =>
  cases b:p a
  ·rw[List.takeWhile_cons,QT (by rw[b];simp)]
   exact⟨by simp,b,fun q d=>by simp at d⟩
  ·rw[List.takeWhile_cons,QW b]
   obtain⟨k,g,i⟩:=j (by
    obtain⟨x,f,c⟩:=h
    rcases Rj.1 f with e | e
    ·rw[e,b]at c;cases c
    ·exact⟨x,e,c⟩)
   refine⟨by simp;omega,g,fun q d=>?_⟩
   cases q with
   | zero=>exact b
   | succ q=>exact i q (by simpa using d)
theorem Px(P:vE S d w)(o:((au d w).k.toList == [36,112])=true) :
  (au d w).h<=zP S d w/\((tS S (zP S d w)).toList == [36,61])=true/\(∀q,(au d w).h<=q->q<zP S d w->((tS S q).toList == [36,61])=false)/\zP S d w<(au d w).z-1:=by
 have t:=P.zt;have p:=P.pos;have f:=P.le;have a:=P.cl;have j:=pF S (au d w).h ((au d w).z-1) f (by omega)
 have l:aJ (fa S (au d w).h ((au d w).z-1)) ⟨#[36,61]⟩=true:=by
  unfold ip at a
  split at a
  ·cases a
  ·split at a
   ·cases a
   ·cases e:aJ (fa S (au d w).h ((au d w).z-1)) ⟨#[36,61]⟩
    ·rw[o,e,QW (by decide)]at a;cases a
    ·rfl
 obtain⟨y,n,m⟩:=RC.1 l
 have c:∃x∈fa S (au d w).h ((au d w).z-1),kB x=false:=by
  refine⟨y,n,?_⟩;unfold kB;have e:y.toList=(⟨#[36,61]⟩:ByteArray).toList:=by simpa using m
  rw[e];decide +kernel
 obtain⟨g,b,i⟩:=Qm kB _ c;rw[<-xj P]at g b i;rw[j]at g;unfold zP;refine⟨by omega,?_,fun q s r=>?_,by omega⟩
 ·rw[se S _ _ _ (by omega) (by omega)]at b
  unfold kB at b;simpa using b
 ·have:=i (q-(au d w).h) (by omega)
  rw[se S _ _ _ (by omega) (by omega),show(au d w).h+(q-(au d w).h)=q by omega]at this;unfold kB at this;simpa using this
def Qf(T:List Tk)(S:List Sm)(a:Nat):jS:=fU T S a (zP T S a) ((au S a).z-1)
def JJ(T:List Tk)(S:List Sm)(a:Nat):ik:=mR T S a (Qf T S a) (T.getD ((au S a).z-1) jf)
theorem A6.keptS(h:A6 f z0 w d)(k:ab zb f y)(n:∀g,z0=some ⟨g,0,none⟩->g∉zb):A6 y z0 w d:=by
 refine⟨h.1,fun j t b=>?_⟩;obtain⟨g,e,a,m,i,l,c⟩:=h.2 j t b;have q:∀o,y.cell? ⟨g,o,none⟩=f.cell? ⟨g,o,none⟩:=fun o=>Q6 (k.block g a (n g e))
 exact⟨g,e,QX a k.size,by rw[q];exact m,by rw[q];exact i,by rw[q];exact l,by rw[q];exact c⟩
theorem fz.off{r:Option Addr}(h:fz f w S z0 g d y0 M)(p:f.heap[T]?=some (.cells #[.slice r y5 y6,i,o,D,z5] 85 (0,0)))(k:ab [T] f y):fz y w S z0 g d y0 M:=by
 have q:f.cell? ⟨T,0,none⟩=some (.slice r y5 y6):=by rw[aa p];rfl
 refine⟨k.get h.d (fun u=>?_),?_,?_⟩
 ·simp at u
  subst u;have:=h.d.symm.trans p;simp at this
 ·cases n:S with
  | nil=>rw[n]at h;exact⟨h.t.1,fun j t c=>by simp at c⟩
  | cons t L =>
   rw[n]at h;refine h.t.keptS k (fun l e b=>?_);simp at b;subst b;obtain⟨l,m,-,a,-⟩:=h.t.2 0 t rfl;rw[m]at e;cases e;rw[UT]at a;rw[q]at a;cases a
 ·cases v:d with
  | nil=>rw[v]at h;exact⟨h.s.1,fun j t c=>by simp at c⟩
  | cons t L =>
   rw[v]at h;refine h.s.keptS k (fun l e b=>?_);simp at b;subst b;obtain⟨l,m,-,a,-⟩:=h.s.2 0 t rfl;rw[m]at e;cases e;rw[UT]at a;rw[q]at a;cases a
theorem Eo(f:Option Addr)(x:Nat)(g:Option Addr)(v:Nat)(G:Option Addr)(D c:Nat)(A H F:Value)(w:World)(E:w.heap[n]?=some (.cells #[.slice G D c,A,.pointer (some ⟨b,0,none⟩),H,F] 85 (0,0)))(R:fz w b l f x (aj l) g v)(u:l.length<=10000)(B:dC l)(d:∀q,q<l.length->bh l (aj l) q=0) :
  Calls prog 57 #[.pointer (some ⟨n,0,none⟩)] w fun e J=>Kn l (aj l) n b (.slice G D c) A (Qf l (aj l)) (JJ l (aj l)) w e J:=by
 have p:=fw l;have W:(aj l).length<=l.length:=oG l l.length;have s:∀m,ab [n] w m->fz m b l f x (aj l) g v:=fun m k=>R.off E k
 have j:∀a,tY (aj l) a=true->bS (au (aj l) a).k=false:=fun a h=>fX h (by decide)
 refine En n b l f x (aj l) g v _ A H F _ _ w E s (by omega) (J9 l u d _ (QR _)).ok.a ?_ ?_ ?_
 ·intro a o t m y
  have P:=oQ p d a o (j a t);obtain⟨V,N,K,I⟩:=Px P t;have:=P.pos;have:=P.zt;exact DR b a (zP l (aj l) a) ((au (aj l) a).z-1) l f x _ g v m (s m y) (J9 l u d a (by omega)) o (qz P) B V N K (by omega) I (by omega) P.dot
 ·intro a o t C m y O
  have P:=oQ p d a o (j a t);have:=P.pos;have:=P.zt;exact AL b a ((au (aj l) a).z-1) l f x _ g v (Qf l (aj l) a) C m (s m y) (J9 l u d a (by omega)) (PZ p d a (by omega)) (Qx p d a (by omega)) o (qz P) ((J9 l u d _ (QR _)).ok.a a o) (by omega) (by omega) O (Ib (by omega) B u _ _ (by omega))
 ·intro a o t
  have P:=oQ p d a o (j a t);have:=P.zt;obtain⟨L,-,T⟩:=vV (T:=l) (S:=aj l) (a:=a) (by omega) B u (zP l (aj l) a) ((au (aj l) a).z-1) (by omega);refine⟨T,fun i Q=>?_⟩
  show(bO (fU l (aj l) a (zP l (aj l) a) ((au (aj l) a).z-1)).st i).ref<=(a:Int)
  rcases(L i Q).Vm with h | ⟨h,-⟩ | ⟨r,U,M,-⟩
  ·rw[h];omega
  ·rw[h];omega
  ·rw[M];have:=U.1;omega
theorem E0(j:∀k d c,d[k]?=some false->(z3 k d c).1.length+2000*aQ (z3 k d c).2<=c.length+2000*aQ d)(f:Fs)(n:Nat):∀L,L.length<=n->∀d c,(cv z3 f L d c).1.length+2000*aQ (cv z3 f L d c).2<=c.length+L.length+2000*aQ d:=by
 induction n with
 | zero =>
  intro L l d c
  cases L with
  | nil=>rw[cv];simp
  | cons _ _=>simp at l
 | succ n o =>
  intro L l d c
  cases L with
  | nil=>rw[cv];simp
  | cons t r =>
   have g:r.length<=n:=by simpa using l
   rw[cv.eq_def];simp only[List.length_cons]
   split
   ·split
    ·simp only;omega
    ·simp only[List.length_append,List.length_cons,List.length_nil];omega
   ·split
    ·have:=o r g d (c++[t])
     rw[Q0,Rp,Rs]at this;omega
    ·split
     ·simp only[List.length_append,List.length_cons,List.length_nil];omega
     ·cases r with
      | nil=>simp only;omega
      | cons a r =>
       cases r with
       | nil=>simp only[List.length_append,List.length_cons,List.length_nil];omega
       | cons b r =>
        have i:r.length<=n:=by simp at g;omega
        simp only[List.length_cons]
        split
        ·simp only[List.length_append,List.length_cons,List.length_nil];omega
        ·split
         ·simp only[List.length_append,List.length_cons,List.length_nil];omega
         ·split
          ·have:=o r i d c
           omega
          ·next h =>
           have m:d[(bF f a.s).toNat]?=some false:=by
            rw[QQ]at h
            cases e:d[(bF f a.s).toNat]? with
            | none=>rw[e]at h;exact absurd rfl h
            | some x=>rw[e]at h;cases x;rfl;exact absurd rfl h
           have p:=j (bF f a.s).toNat d c m
           split
           ·omega
           ·have:=o r i (z3 (bF f a.s).toNat d c).2 (z3 (bF f a.s).toNat d c).1
            omega
theorem E2(c:∀k,(ak H k).size<=1024)(n:Nat):∀k b a,b[k]?=some false->(dQ H n k b a).1.length+2000*aQ (dQ H n k b a).2<=a.length+2000*aQ b:=by
 induction n with
 | zero=>intro k b a _;rw[dQ];simp
 | succ n e =>
  intro k b a d;rw[dQ];have f:=E0 (dQ H n) e H _ (qV H k) (QR _) (b.set k true) a;have g:=Df H k;have i:=lC b k d;have h:=c k;omega
theorem Ii(e:H.length<=4)(a:∀b,(ak H b).size<=1024)(d:b<H.length):(cC H b).1.length<=10000:=by
 have h:=E2 H a H.length b (List.replicate H.length false) [] (by rw[Sf,QW d]);rw[mP]at h;have c:(pt H b).length<=10000:=by unfold pt;simp at h;omega
 unfold cC
 split
 ·rw[SF];omega
 ·exact c
structure OH(w:World)(v:Nat)(fs:Fs)(h:Hd)(T:List Tk)(lo hi b:Nat)(aT:Option Addr)(cT:Nat)(aS:Option Addr)(cS:Nat)(PS:List (jS×Hd))(h1:Hd)(RS:List ik)(h2:Hd):Prop where
 rv:fB w v fs h true (.pointer (some ⟨b,0,none⟩)) (.slice h1.ao PS.length h1.cap) (.slice h2.ao RS.length h2.cap)
 db:fz w b T aT cT (aj T) aS cS
 ps:PS.map (·.1)=(List.range (aj T).length).map (xM (aj T) (Qf T (aj T)))
 fin:pv (aj T) PS ((List.range (aj T).length).map (oO T (aj T) (JJ T (aj T)))) RS (aj T).length
 s1:aw w h1 (fP PS)
 s2:aw w h2 (fM RS)
 sq:∀x∈PS,cm w x.2.ao 6 kV x.1.st
 nb:lo<=b/\b<hi
 nT:∀g,aT=some ⟨g,0,none⟩->lo<=g/\g<hi
 nS:∀g,aS=some ⟨g,0,none⟩->lo<=g/\g<hi
 n1:∀g,h1.blk=some g->lo<=g/\g<hi
 n2:∀g,h2.blk=some g->lo<=g/\g<hi
 nq:∀x∈PS,∀g,x.2.ao=some ⟨g,0,none⟩->lo<=g/\g<hi
def xF(w:World)(v:Nat)(fs:Fs)(h:Hd)(T:List Tk)(lo hi:Nat):Prop:=∃b aT cT aS cS PS h1 RS h2,OH w v fs h T lo hi b aT cT aS cS PS h1 RS h2
theorem xF.kept(a:xF f w x k S T g)(h:ab zb f y)(o:w∉zb)(u:∀q,k.blk=some q->q∉zb)(v:∀q,T<=q->q<g->q∉zb):xF y w x k S T g:=by
 obtain⟨b,r,A,B,p,l,m,z,n,a⟩:=a;have q:∀c,T<=c/\c<g->c∉zb:=fun c i=>v c i.1 i.2
 exact⟨b,r,A,B,p,l,m,z,n,{ a with
  rv:=a.rv.keptS h o u
  db:=⟨h.get a.db.d (q b a.nb),a.db.t.keptS h (fun c e=>q c (a.nT c e)),a.db.s.keptS h (fun c e=>q c (a.nS c e))⟩
  s1:=a.s1.Vg (fun c e=>h.block c (a.s1.lt e) (q c (a.n1 c e)))
  s2:=a.s2.Vg (fun c e=>h.block c (a.s2.lt e) (q c (a.n2 c e)))
  sq:=fun i j=>(a.sq i j).keptS h (fun c e=>q c (a.nq i j c e)) }⟩
theorem xF.rvAt(a:xF f w x k S T g):∃e c d,fB f w x k true e c d:=by
 obtain⟨b,i,n,o,p,h,j,l,m,a⟩:=a;exact⟨_,_,_,a.rv⟩
theorem Mf{X:World}{h:List (jS×Hd)}{p:List ik}{m:Hd}(b:vD f y w T i o h N p m)(l:fz y T S z0 y5 (aj S) y0 y6)(A:fB X w x k true (.pointer (some ⟨T,0,none⟩)) (.slice N.ao h.length N.cap) (.slice m.ao p.length m.cap))(K:ab [w,g] y X)(G:w<M)(H:g<M)(u:M<=f.heap.size)(v:M<=T)(r:∀a,z0=some ⟨a,0,none⟩->M<=a/\a<y.heap.size)(nS:∀a,y0=some ⟨a,0,none⟩->M<=a/\a<y.heap.size)(B:h.map (·.1)=(List.range (aj S).length).map (xM (aj S) (Qf S (aj S))))(j:pv (aj S) h ((List.range (aj S).length).map (oO S (aj S) (JJ S (aj S)))) p (aj S).length):xF X w x k S M X.heap.size:=by
 have z:=K.size;have q:∀a,M<=a->a∉[w,g]:=fun a I F=>by simp at F;omega
 have C:∀a,N.blk=some a->M<=a/\a<X.heap.size:=fun a e=>⟨Q3 u (b.f1 a e),QX (b.o1.lt e) z⟩
 have E:∀a,m.blk=some a->M<=a/\a<X.heap.size:=fun a e=>⟨Q3 u (b.f2 a e),QX (b.o2.lt e) z⟩
 have D:∀c∈h,∀a,c.2.ao=some ⟨a,0,none⟩->M<=a/\a<X.heap.size:=fun c n a e=>⟨Q3 u ((b.q c n).2 a e).1,QX (b.ql c n a e) z⟩
 exact⟨T,z0,y5,y0,y6,h,N,p,m,{
  rv:=A
  db:=⟨K.get l.d (q T v),l.t.keptS K (fun a e=>q a (r a e).1),l.s.keptS K (fun a e=>q a (nS a e).1)⟩
  ps:=B
  fin:=j
  s1:=b.o1.Vg (fun a e=>K.block a (b.o1.lt e) (q a (C a e).1))
  s2:=b.o2.Vg (fun a e=>K.block a (b.o2.lt e) (q a (E a e).1))
  sq:=fun c n=>(b.q c n).1.keptS K (fun a e=>q a (D c n a e).1)
  nb:=⟨v,QX (ae l.d) z⟩
  nT:=fun a e=>⟨(r a e).1,QX (r a e).2 z⟩
  nS:=fun a e=>⟨(nS a e).1,QX (nS a e).2 z⟩
  n1:=C
  n2:=E
  nq:=D }⟩
def Qu(fs:Fs)(k v:Nat)(h:Hd)(f:pA)(c:Int)(w:World)(e:Ending)(w':World):Prop :=
 e=.returned (.tuple #[gU f,.int .i64 c])/\((c=0->∃lo,w.heap.size<=lo/\xF w' v fs h (cC fs k).1 lo w'.heap.size)/\(c≠0->∃p2 p3 p4,fB w' v fs h false p2 p3 p4))/\ab [v] w w'
theorem fB.keptV{on':Bool}(a:fB f w x k z2 i o D)(d:ab [w] f y)(c:y.heap[w]?=some (.cells #[.slice k.ao x.length k.cap,.bool on',z5,y7,y8] 85 (0,0))):fB y w x k on' z5 y7 y8 :=
 ⟨c,a.own.Vg (fun q b=>d.block q (a.own.lt b) (by simp;intro e;rw[e]at b;exact a.far b)),a.far,a.le⟩
theorem sD(h:∀j,j<x.length->(ak x j).size<=1024)(k:Nat):(ak x k).size<=1024:=by
 by_cases a:k<x.length
 ·exact h k a
 ·unfold ak;rw[QQ,Rx (by omega)];show(0:Nat)<=1024;omega
theorem fB.Vk(a:fB f w x k z2 i o D)(c:w≠T)(e:∀q,k.blk=some q->q≠T)(b:Nat)(u:Value):fB (f.setCell ⟨T,b,none⟩ u) w x k z2 i o D :=
 ⟨((ab.refl [T] f).setCell (Q1 (by simp)) _).get a.d (by simp;exact c),a.own.Vk e b u,a.far,a.le⟩
theorem vo{d u0 u1 u2 u3:Value}(e:y.heap[w]?=some (.cells #[z5,y7,y8,d] 87 (0,0)))(h:fB y T x k z2 i o D)(l:T<w)(j:∀q,k.blk=some q->q<w)(g:ab [T] f y)(b:f.heap.size<=w) :
  ((((y.setCell ⟨w,0,none⟩ u0).setCell ⟨w,1,none⟩ u1).setCell ⟨w,2,none⟩ u2).setCell ⟨w,3,none⟩ u3).heap[w]?=some (.cells #[u0,u1,u2,u3] 87 (0,0))/\fB ((((y.setCell ⟨w,0,none⟩ u0).setCell ⟨w,1,none⟩ u1).setCell ⟨w,2,none⟩ u2).setCell ⟨w,3,none⟩ u3) T x k z2 i o D/\ab [T] f ((((y.setCell ⟨w,0,none⟩ u0).setCell ⟨w,1,none⟩ u1).setCell ⟨w,2,none⟩ u2).setCell ⟨w,3,none⟩ u3):=by
 refine⟨ah (ah (ah (ah e 0 u0) 1 u1) 2 u2) 3 u3,?_,(((g.setCell (QV b) _).setCell (QV b) _).setCell (QV b) _).setCell (QV b) _⟩;have a:∀q,k.blk=some q->q≠w:=fun q c=>by have:=j q c;omega
 exact(((h.Vk (by omega) a _ _).Vk (by omega) a _ _).Vk (by omega) a _ _).Vk (by omega) a _ _
theorem mz(h:f.heap[w]?=some (.cells #[i,o,D,z5] 87 (0,0))) :
  (f.cell? ⟨w,0,none⟩=some i/\f.cell? ⟨w,1,none⟩=some o/\f.cell? ⟨w,2,none⟩=some D/\f.cell? ⟨w,3,none⟩=some z5)/\(f.frozen? ⟨w,0,none⟩=false/\f.frozen? ⟨w,1,none⟩=false/\f.frozen? ⟨w,2,none⟩=false/\f.frozen? ⟨w,3,none⟩=false)/\w<f.heap.size:=by
 refine⟨⟨?_,?_,?_,?_⟩,⟨am h 0,am h 1,am h 2,am h 3⟩,ae h⟩
 all_goals (rw[aa h];rfl)
theorem v8(f:H.length<=4)(d:∀j,j<H.length->(ak H j).size<=1024)(k:b<H.length)(i:((yp (cC H b).1 (aj (cC H b).1)).rule==0)=true)(c:((cC H b).2.rule==0)=true):fE H b=cY/\∀q,q<(cC H b).1.length->bh (cC H b).1 (aj (cC H b).1) q=0:=by
 obtain⟨e,g⟩:=v7 H b f d k
 have m:(fE H b).1=0:=by
  unfold fE;rw[QT (by rw[i];simp)];exact TR c
 refine⟨?_,(g (by rw[e,m];rfl)).1.u⟩
 have l:(cC H b).2=jf:=by
  unfold cC at c ⊢
  split
  ·next a =>
   rw[QW a]at c;unfold eu at a
   cases h:(pt H b).getLast? with
   | none=>rw[h]at a;cases a
   | some t =>
    rw[h]at a c;simp only[Option.getD_some]at c;simp only at a;rw[c]at a
    cases a
  ·rfl
 unfold fE;rw[QT (by rw[i];simp),l];rfl
theorem xZ(h:Hd)(l:Bool)(t u m:Value)(n:ByteArray)(w:World)(g:fB w L H h l t u m)(E:bF H n<0) :
  Calls prog 37 #[.pointer (some ⟨L,0,none⟩),.string n] w fun e o=>e=.returned (.tuple #[gU cY,.int .i64 5])/\ab [] w o:=by
 obtain⟨W,i⟩:∃W,Hid (w.alloc (.cells #[.int .i64 0,.string ⟨#[]⟩,.int .i64 0,.int .i64 0] 87)=W):=⟨_,rfl⟩
 have b:Hid (ab [] w W):=by show ab [] w W;rw[<-i.out];exact(ab.refl [] _).alloc _
 have k:Hid (W.heap[w.heap.size]?=some (.cells #[.int .i64 0,.string ⟨#[]⟩,.int .i64 0,.int .i64 0] 87 (0,0))):=by show _=_;rw[<-i.out];exact QS _ _
 have a:=hI (g.Vb b.out);have j:=hI (mu H h.ao h.cap n W (by have:=g.le;omega) a.out.own.srcFi);have A:W.cell? ⟨L,0,none⟩=some (.slice h.ao H.length h.cap):=by rw[aa a.out.d];rfl
 have B:=ae a.out.d;obtain⟨⟨C,z,J,N⟩,⟨I,G,K,D⟩,M⟩:=mz k.out;have c:Hid (L<w.heap.size/\∀q,h.blk=some q->q<w.heap.size):=⟨ae g.d,fun q s=>g.own.lt s⟩;clear g;go_enter func37,ntmps37
 go_upto_region 1 with fail
 rw[i.out];go_wp2_with (go_at_call 35;refine QU j.out ?_;rintro e F ⟨rfl,f⟩;rw[f];clear f);obtain⟨x,-,-⟩:=vo (u0:=.int .i64 0) (u1:=.string ⟨#[]⟩) (u2:=.int .i64 0) (u3:=.int .i64 0) k.out a.out c.out.1 c.out.2 (oB b.out) (QR _);obtain⟨⟨p,v,y,r⟩,-,-⟩:=mz x;exact QY (v:=.tuple #[.agg #[.int .i64 0,.string ⟨#[]⟩,.int .i64 0,.int .i64 0],.int .i64 5]) (by simp[results,results37,go_sem,p,v,y,r]) rfl ⟨rfl,(((b.out.setCell (QV (QR _)) _).setCell (QV (QR _)) _).setCell (QV (QR _)) _).setCell (QV (QR _)) _⟩
theorem AQ(c:Fs)(h:Hd)(on:Bool)(p2 p3 p4:Value)(bx:ByteArray)(w:World)(hR:fB w n c h on p2 p3 p4)(hf:bF c bx=(b:Int))(hk:b<c.length)(P:∀j,j<c.length->(ak c j).size<=1024) :
  Calls prog 37 #[.pointer (some ⟨n,0,none⟩),.string bx] w fun e w'=>Qu c b n h (fE c b) (if((fE c b).1==0)=true then 0 else 6) w e w':=by
 unfold Qu;have al:=hR.le;obtain⟨b5,l⟩:=h;obtain⟨gf,az,cl,-⟩:=hR.own.srcFi.2 b hk;replace az:b5=some ⟨gf,0,none⟩:=az;subst az;obtain⟨W,HW⟩:∃W,Hid (w.alloc (.cells #[.int .i64 0,.string ⟨#[]⟩,.int .i64 0,.int .i64 0] 87)=W):=⟨_,rfl⟩
 have bj:Hid (ab [] w W):=by show ab [] w W;rw[<-HW.out];exact(ab.refl [] _).alloc _
 have BF:Hid (W.heap[w.heap.size]?=some (.cells #[.int .i64 0,.string ⟨#[]⟩,.int .i64 0,.int .i64 0] 87 (0,0))):=by show _=_;rw[<-HW.out];exact QS _ _
 have B:=hI (hR.Vb bj.out);have bo:=hI (mu c (some ⟨gf,0,none⟩) l bx W (by omega) B.out.own.srcFi);rw[hf]at bo;have v0:W.cell? ⟨n,0,none⟩=some (.slice (some ⟨gf,0,none⟩) c.length l):=by rw[aa B.out.d];rfl
 have v1:W.cell? ⟨n,1,none⟩=some (.bool on):=by rw[aa B.out.d];rfl
 have e1:=am B.out.d 1;have vz:=ae B.out.d;have k:Hid (n<w.heap.size/\∀q,(⟨some ⟨gf,0,none⟩,l⟩:Hd).blk=some q->q<w.heap.size):=⟨ae hR.d,fun q hq=>hR.own.lt hq⟩;obtain⟨C,O⟩:∃C,Hid (W.setCell ⟨n,1,none⟩ (.bool false)=C):=⟨_,rfl⟩
 have F:Hid (fB C n c ⟨some ⟨gf,0,none⟩,l⟩ false p2 p3 p4):=by show fB _ _ _ _ _ _ _ _;rw[<-O.out];exact B.out.off
 have ar:Hid (ab [n] w C):=by show ab _ _ _;rw[<-O.out];exact(oB bj.out).setCell (Q1 (by simp)) _
 have bp:Hid (C.heap[w.heap.size]?=some (.cells #[.int .i64 0,.string ⟨#[]⟩,.int .i64 0,.int .i64 0] 87 (0,0))):=by
  show _=_
  rw[<-O.out];exact((ab.refl [n] _).setCell (Q1 (by simp)) _).get BF.out (by have:=k.out.1;simp;omega)
 have U:=hI (Ij c gf l b C al (sD P) hk F.out.own.srcFi (F.out.own.lt rfl));have b0:C.cell? ⟨n,0,none⟩=some (.slice (some ⟨gf,0,none⟩) c.length l):=by rw[aa F.out.d];rfl
 have cf:=ae F.out.d;have S:=hI (BG c b (sD P));have A:=hI (Ii c b al (sD P) hk);have L:=hI (v8 c b al P hk);have x:Hid (fE c b=if((yp (cC c b).1 (aj (cC c b).1)).rule==0)=false then Lj (yp (cC c b).1 (aj (cC c b).1)) else Lj (cC c b).2):=rfl;obtain⟨f,Hf⟩:∃f,Hid (fE c b=f):=⟨_,rfl⟩
 rw[Hf.out]at x L ⊢;obtain⟨cc,Q⟩:∃cc,Hid ((if(f.1==0)=true then(0:Int) else 6)=cc):=⟨_,rfl⟩
 rw[Q.out];obtain⟨⟨T,t⟩,b4⟩:∃Tt,Hid (cC c b=Tt):=⟨_,rfl⟩
 rw[b4.out]at U S A L x ⊢;simp only at U S A L x ⊢;obtain⟨u,Hu⟩:∃u,Hid (yp T (aj T)=u):=⟨_,rfl⟩
 rw[Hu.out]at L x;have cp:¬(b:Int)<0:=by omega
 have a1:Hid (∀i,(tS T i).size<=1073741824):=fun i=>by
  unfold tS;rw[QQ]
  cases e:T[i]? with
  | none=>show(0:Nat)<=_;omega
  | some t=>have:=(S.out t (R4 e)).1;show t.s.size<=_;omega
 clear hR cl hf;go_enter func37,ntmps37
 go_upto_region 1 with fail
 rw[HW.out]
 go_upto_region 5 with (go_at_call 35;refine QU bo.out ?_;rintro e w9 ⟨rfl,a7⟩;rw[a7];clear a7)
 rw[O.out];clear v0 v1 e1 vz;obtain⟨ts,tr,tf,tl,tc⟩:=t;obtain⟨us,Y,uf,ul,uc⟩:=u;simp only at U
 go_upto_region 6 with (go_at_call 54;refine QU U.out ?_;rintro e w7 ⟨aT,cT,rfl,sT,k7,n7⟩)
 obtain⟨D,I⟩:∃D,Hid (w7.alloc (.cells #[.int .i64 tr,.string tf,.int .i64 tl,.int .i64 tc] 87)=D):=⟨_,rfl⟩
 have bd:Hid (ab [] C D):=by show ab _ _ _;rw[<-I.out];exact k7.alloc _
 have bz:Hid (D.heap[w7.heap.size]?=some (.cells #[.int .i64 tr,.string tf,.int .i64 tl,.int .i64 tc] 87 (0,0))):=by show _=_;rw[<-I.out];exact QS _ _
 have V:Hid (w7.heap.size<=D.heap.size/\C.heap.size<=D.heap.size):=⟨by rw[<-I.out];simp,bd.out.size⟩;have a6:=hI n7;have b6:=hI (LJ T aT cT D (lj.Vb sT (by rw[<-I.out];exact(ab.refl [] _).alloc _)) (by have:=A.out;omega) a1.out);rw[I.out];clear sT k7 b0 cf n7
 go_upto_region 7 with (go_at_call 55;refine QU b6.out ?_;rintro e w9 ⟨rfl,aS,cS,d9,k9,n9⟩)
 have ap:=hI (we D.heap.size T aT cT (aj T) aS cS w9 d9 (by have:=A.out;omega) (Ot T (by have:=A.out;omega)) a1.out);rw[Hu.out]at ap;simp only at ap;have bg:Hid (∀g,aT=some ⟨g,0,none⟩->C.heap.size<=g/\g<w9.heap.size):=fun g J=>⟨(a6.out g J).1,QX (a6.out g J).2 (Q3 V.out.1 k9.size)⟩
 have a4:Hid (∀g,aS=some ⟨g,0,none⟩->C.heap.size<=g/\g<w9.heap.size):=fun g J=>⟨Q3 V.out.2 (n9 g J).1,(n9 g J).2⟩
 have b3:=hI (bd.out.trans k9);have ch:=hI (k9.get bz.out (by simp));have co:=hI k9.size;have cb:=hI d9;clear d9 k9 n9
 go_upto_region 8 with (go_at_call 56;refine QU ap.out ?_;rintro e ba ⟨rfl,bf⟩)
 obtain⟨o,K⟩:∃o,Hid (ba.alloc (.cells #[.int .i64 Y,.string uf,.int .i64 ul,.int .i64 uc] 87)=o):=⟨_,rfl⟩
 have a5:Hid (o.heap[ba.heap.size]?=some (.cells #[.int .i64 Y,.string uf,.int .i64 ul,.int .i64 uc] 87 (0,0))):=by show _=_;rw[<-K.out];exact QS _ _
 have v:Hid (ab [] w9 o):=by show ab _ _ _;rw[<-K.out];exact bf.alloc _
 have E:=hI (b3.out.trans v.out);have bv:=hI (fz.Vb cb.out v.out);have b1:=hI (v.out.get ch.out (by simp));have a:=hI (F.out.Vb E.out);have R:=hI (E.out.get bp.out (by simp));have ao:=hI (ar.out.trans (oB E.out));rw[K.out];clear bf;obtain⟨⟨u0,u1,u2,u3⟩,-,uz⟩:=mz a5.out;obtain⟨⟨t0,t1,t2,t3⟩,-,tz⟩:=mz b1.out;obtain⟨⟨g0,g1,g2,g3⟩,⟨f0,f1,f2,f3⟩,wz⟩:=mz R.out
 cases hu:(Y==0)
 ·have Z:Hid (f=(Y,⟨uf,ul,uc⟩)):=by show _=_;rw[x.out];exact QW hu
  have HC:Hid (cc=6):=by show _=_;rw[<-Q.out,Z.out];exact QT (fun q=>by have q':(Y==0)=true:=q;rw[hu]at q';cases q')
  go_wp2;obtain⟨B1,R1,K1⟩:=vo (u0:=.int .i64 Y) (u1:=.string uf) (u2:=.int .i64 ul) (u3:=.int .i64 uc) R.out a.out k.out.1 k.out.2 ao.out (QR _);obtain⟨⟨c0,c1,c2,c3⟩,-,-⟩:=mz B1;exact QY (v:=.tuple #[.agg #[.int .i64 Y,.string uf,.int .i64 ul,.int .i64 uc],.int .i64 6]) (by simp[results,results37,go_sem,c0,c1,c2,c3]) rfl (by rw[HC.out,Z.out];exact⟨rfl,⟨(fun q=>by cases q),fun _=>⟨_,_,_,R1⟩⟩,K1⟩)
 ·cases ht:(tr==0)
  ·have Z:Hid (f=(tr,⟨tf,tl,tc⟩)):=by show _=_;rw[x.out];exact QT (fun q=>by have q':(Y==0)=false:=q;rw[hu]at q';cases q')
   have HC:Hid (cc=6):=by show _=_;rw[<-Q.out,Z.out];exact QT (fun q=>by have q':(tr==0)=true:=q;rw[ht]at q';cases q')
   go_wp2;obtain⟨B1,R1,K1⟩:=vo (u0:=.int .i64 tr) (u1:=.string tf) (u2:=.int .i64 tl) (u3:=.int .i64 tc) R.out a.out k.out.1 k.out.2 ao.out (QR _);obtain⟨⟨c0,c1,c2,c3⟩,-,-⟩:=mz B1;exact QY (v:=.tuple #[.agg #[.int .i64 tr,.string tf,.int .i64 tl,.int .i64 tc],.int .i64 6]) (by simp[results,results37,go_sem,c0,c1,c2,c3]) rfl (by rw[HC.out,Z.out];exact⟨rfl,⟨(fun q=>by cases q),fun _=>⟨_,_,_,R1⟩⟩,K1⟩)
  ·obtain⟨bs,ac⟩:=L.out hu ht
   have a2:=hI ac;have Z:=hI bs;have HC:Hid (cc=0):=by show _=_;rw[<-Q.out,Z.out];rfl
   clear bs ac;have x2:o.cell? ⟨n,2,none⟩=some p2:=by rw[aa a.out.d];rfl
   have y2:=am a.out.d 2;have vz:=ae a.out.d;have X:=ah a.out.d 2 (.pointer (some ⟨D.heap.size,0,none⟩));obtain⟨z,H⟩:∃z,Hid (o.setCell ⟨n,2,none⟩ (.pointer (some ⟨D.heap.size,0,none⟩))=z):=⟨_,rfl⟩
   rw[H.out]at X;have m:Hid (ab [n] o z):=by show ab _ _ _;rw[<-H.out];exact(ab.refl [n] _).setCell (Q1 (by simp)) _
   have ag:=hI (fz.off bv.out a.out.d m.out);have a3:=hI (m.out.get R.out (by have:=k.out.1;simp;omega));have ai:=hI (fB.keptV (on':=false) a.out m.out X);have bw:=hI (Eo n D.heap.size T aT cT aS cS _ _ _ _ _ _ z X ag.out A.out S.out a2.out);clear X
   go_upto_region 13 with fail
   rw[H.out];clear x2 y2 vz u0 u1 u2 u3 uz t0 t1 t2 t3 tz g0 g1 g2 g3 f0 f1 f2 f3 wz
   go_upto_region 14 with (go_at_call 57;refine QU bw.out ?_;rintro e N ⟨PS,j1,j2,RS,rfl,be,ad,jw⟩)
   have br:=hI (jw.kept.get a3.out (by have:=k.out.1;simp;omega));have y:=jw.d;have G:=jw.kept;have bl:=hI (fB.keptV (on':=false) ai.out G y);have b2:=(show Hid _ from(ao.out.trans m.out).trans G);have cj:=hI jw;have bT:=hI be;have ck:=hI ad;have bk:=hI (fz.off ag.out ai.out.d G);have a0:Hid (w9.heap.size<=z.heap.size/\z.heap.size<=N.heap.size/\D.heap.size<=w9.heap.size):=⟨Q3 v.out.size m.out.size,G.size,co.out⟩;have x1:N.cell? ⟨n,1,none⟩=some (.bool false):=by rw[aa y];rfl
   have y1:=am y 1;have vz:=ae y;have an:=ah y 1 (.bool true);obtain⟨ax,M⟩:∃ax,Hid (N.setCell ⟨n,1,none⟩ (.bool true)=ax):=⟨_,rfl⟩
   rw[M.out]at an;have r:Hid (ab [n] N ax):=by show ab _ _ _;rw[<-M.out];exact(ab.refl [n] _).setCell (Q1 (by simp)) _
   have bc:=hI (fB.keptV (on':=true) bl.out r.out an);have af:=hI (r.out.get br.out (by have:=k.out.1;simp;omega));have ca:=hI (b2.out.trans r.out);clear jw be ad y G an
   go_upto_region 15 with fail
   rw[M.out];clear x1 y1 vz;obtain⟨⟨g0,g1,g2,g3⟩,⟨f0,f1,f2,f3⟩,wz⟩:=mz af.out;go_wp2;obtain⟨B1,R1,K1⟩:=vo (u0:=.int .i64 0) (u1:=.string ⟨#[]⟩) (u2:=.int .i64 0) (u3:=.int .i64 0) af.out bc.out k.out.1 k.out.2 ca.out (QR _);have KX:ab [n,w.heap.size] N _:=((((r.out.mono (S':=[n,w.heap.size]) (fun q hq _=>by rw[Q9.1 hq];exact Rn)).setCell (p:=⟨w.heap.size,0,none⟩) (Q1 (by simp)) (.int .i64 0)).setCell (p:=⟨w.heap.size,1,none⟩) (Q1 (by simp)) (.string ⟨#[]⟩)).setCell (p:=⟨w.heap.size,2,none⟩) (Q1 (by simp)) (.int .i64 0)).setCell (p:=⟨w.heap.size,3,none⟩) (Q1 (by simp)) (.int .i64 0);obtain⟨⟨c0,c1,c2,c3⟩,-,-⟩:=mz B1;exact QY (v:=.tuple #[.agg #[.int .i64 0,.string ⟨#[]⟩,.int .i64 0,.int .i64 0],.int .i64 0]) (by simp[results,results37,go_sem,c0,c1,c2,c3]) rfl (by rw[HC.out,Z.out];exact⟨rfl,⟨fun _=>⟨C.heap.size,ar.out.size,Mf cj.out bk.out R1 KX (QX k.out.1 ar.out.size) (ae bp.out) (by have:=V.out;have:=a0.out;omega) V.out.2 (fun g J=>⟨(bg.out g J).1,by have:=(bg.out g J).2;have:=a0.out;omega⟩) (fun g J=>⟨(a4.out g J).1,by have:=(a4.out g J).2;have:=a0.out;omega⟩) bT.out ck.out⟩,fun q=>absurd rfl q⟩,K1⟩)
theorem DZ(h:b<n):aE (H.take n) b=aE H b/\ak (H.take n) b=ak H b:=by
 unfold aE ak;rw[QQ,Tj,QW h,QQ];exact⟨rfl,rfl⟩
theorem mV.take(h:mV f z0 w x)(k:Nat)(d:k<=x.length):mV f z0 w (x.take k):=by
 have a:(x.take k).length=k:=by rw[RQ];omega
 refine⟨by rw[a];exact Q3 d h.1,fun j b=>?_⟩;rw[a]at b;obtain⟨c,e⟩:=DZ x k j b;rw[c,e];exact h.2 j (by omega)
theorem Le(h:mV f (some ⟨w,0,none⟩) T x)(j:Nat)(u:Value)(a:(qK x)[j]?=some u):f.cell? ⟨w,j,none⟩=some u:=by
 have i:j<x.length*2:=by
  rw[<-vn];exact(Q8.1 a).1
 obtain⟨k,e,-,d,c⟩:=h.2 (j / 2) (by omega)
 cases e
 obtain⟨b,g⟩:=v9 x (j / 2) (by omega)
 rcases UB j with e | e
 ·rw[show j / 2*2=j by omega]at d b
  rw[b]at a;rw[d,<-a]
 ·rw[show j / 2*2+1=j by omega]at c g
  rw[g]at a;rw[c,<-a]
def PB(w:World)(v:Nat)(h:Hd)(fs:Fs)(p2 p3 p4:Value)(r:Int)(w':World):Prop:=(r=0->∃h',fB w' v fs h' false p2 p3 p4/\ab (v :: h.blk.toList) w w'/\∀b,h'.blk=some b->h.blk=some b∨w.heap.size<=b)/\(r≠0->ab [] w w')
theorem PB.stay{r:Int}(b:r≠0)(a:ab [] f y):PB f w k x i o D r y:=⟨fun e=>absurd e b,fun _=>a⟩
theorem fB.newRow{b:Fs}(a:fB f w x k z2 i o D)(n:ab [] f y)(g:aw y N (cr b))(s:∀q,N.blk=some q->f.heap.size<=q)(j:b.length<=4)(m:T=b.length):fB (y.setCell ⟨w,0,none⟩ (.slice N.ao T N.cap)) w b N z2 i o D:=by
 have l:=n.get a.d (by simp);have t:=ae a.d;have c:N.blk≠some w:=fun p=>by have:=s w p;omega
 have r:ab [w] y (y.setCell ⟨w,0,none⟩ (.slice N.ao T N.cap)):=(ab.refl _ _).setCell (Q1 (by simp)) _;subst m;exact⟨by rw[ah l];rfl,g.Vg (fun q h=>r.block q (g.lt h) (by simp;intro e;exact c (by rw[<-e];exact h))),c,j⟩
theorem Ev(a:Fs)(h:Hd)(on:Bool)(p2 p3 p4:Value)(E:Option Addr)(f:Nat)(w:World)(hR:fB w L H h on p2 p3 p4)(hS:mV w E f a)(hn:E=none->a.length=0/\f=0)(ha:∀z,E=some z->∃g,z=⟨g,0,none⟩)(I:∀j,j<a.length->(aE a j).size<=1073741824/\(ak a j).size<=1073741824) :
  Calls prog 31 #[.pointer (some ⟨L,0,none⟩),.slice E a.length f] w fun e l=>e=.returned (.int .i64 (dy a))/\PB w L h (jt H a) p2 p3 p4 (dy a) l:=by
 have HR:=hI hR
 by_cases h4:4<a.length
 ·have K:Hid (dy a=1):=by show _=_;unfold dy;rw[QW h4]
  rw[K.out];have an:(4:Int)<(a.length:Int):=by omega
  clear hR;go_enter func31,ntmps31;go_wp2;go_ret;exact⟨rfl,PB.stay (by decide) (ab.refl _ _)⟩
 ·have K:Hid (dy a=dJ (Dx a) a.length):=by show _=_;unfold dy;rw[QT h4]
  obtain⟨r,Hr⟩:∃r,Hid (dy a=r):=⟨_,rfl⟩
  rw[Hr.out]at K ⊢;have an:¬(4:Int)<(a.length:Int):=by omega
  have X:=hI hS;have HN:=hI hn;have Z:=hI ha;have F:=hI I;obtain⟨iF,ap,U,V,P⟩:=Re zZ;clear hR hS hn ha I;go_enter func31,ntmps31;go_wp2
  go_loopg [5] a.length (fun g iv wr=>∃k:Nat,k<=a.length/\g=a.length-k/\iv=.int .i64 k/\Hid (dJ (Dx a) k=0)/\Hid (ab [] w wr))
  case atStart=>exact⟨0,by omega,rfl,rfl,rfl,ab.refl _ _⟩
  case round =>
   obtain⟨k,hk,hg,rfl,HZ,v⟩:=hrel
   by_cases t:k<a.length
   ·have a3:(k:Int)<(a.length:Int):=by omega
    have a1:(0:Int)<=(k:Int):=by omega
    have a4:=X.out.1;obtain⟨B,rfl,x,c0,c1⟩:=(mV.Vb X.out v.out).2 k t;have HC:Hid (∀l,ab [] wr l->l.cell? ⟨B,k*2,none⟩=some (.string (aE a k))/\l.cell? ⟨B,k*2+1,none⟩=some (.string (ak a k))/\B<l.heap.size):=fun l kw=>⟨by rw[Q6 (kw.block B x (by simp))];exact c0,by rw[Q6 (kw.block B x (by simp))];exact c1,QX x kw.size⟩
    have C:Hid (∀s,ab [] wr s->Calls prog 35 #[.slice (some ⟨B,0,none⟩) k f,.string (aE a k)] s fun e l=>e=.returned (.int .i64 (bF (a.take k) (aE a k)))/\l=s):=fun s kx=>by
     have hl:(a.take k).length=k:=by rw[RQ];omega
     have:=mu (a.take k) (some ⟨B,0,none⟩) f (aE a k) s (by omega) (mV.take (mV.Vb X.out (v.out.trans kx)) k hk);rw[hl]at this;exact this
    have T:Hid (∀s,Calls prog 34 #[.string (aE a k),.string (ak a k)] s fun e l=>e=.returned (.int .i64 (cJ (aE a k) (ak a k)))/\l=s):=fun s=>BE _ _ s (F.out k t).1 (by have:=(F.out k t).2;omega)
    have p:Hid (Dx a k=if(cJ (aE a k) (ak a k)==0)=false then cJ (aE a k) (ak a k) else if 0<=bF (a.take k) (aE a k) then 4 else 0):=rfl;have S:Hid ((Dx a k==0)=false->r=Dx a k):=fun q=>by rw[K.out];exact ou HZ.out q t
    have ax:Hid (Dx a k=0->dJ (Dx a) (k+1)=0):=fun q=>by rw[dJ,HZ.out];exact q
    generalize aE a k=nm at *;generalize ak a k=dt at *;obtain⟨N,ac⟩:∃N,Hid (cJ nm dt=N):=⟨_,rfl⟩
    rw[ac.out]at T p;obtain⟨fi,ag⟩:∃fi,Hid (bF (a.take k) nm=fi):=⟨_,rfl⟩
    rw[ag.out]at C p
    go_upto_region 6 with fail
    go_region_with (go_at_call 34;refine(T.out _).mono ?_;rintro e y ⟨rfl,al⟩)
    all_goals
     subst al;obtain⟨y,H9⟩:∃y,Hid (wr.drew=y):=⟨_,rfl⟩
     rw[H9.out];have i:Hid (ab [] wr y):=by show ab _ _ _;rw[<-H9.out];exact(ab.refl [] wr).drew
     clear c0 c1 x
     cases c:(N==0)
     ·rw[c,QW rfl]at p
      have o:=hI (S.out (by rw[p.out];exact c));rw[p.out]at o;have aT:(N != 0)=true:=by unfold bne;rw[c];rfl
      go_wp2;go_ret;exact⟨QN o.out.symm,PB.stay (by rw[o.out];exact fun q=>by rw[q]at c;cases c) (v.out.trans i.out)⟩
     ·rw[c,QT (by simp)]at p
      have aT:(N != 0)=false:=by unfold bne;rw[c];rfl
      obtain⟨d0,d1,d2⟩:=HC.out y i.out
      by_cases R:0<=fi
      ·rw[QW R]at p
       have o:=hI (S.out (by rw[p.out];rfl));rw[p.out]at o
       go_upto_region 9 with fail
       go_region_with (go_at_call 35;refine(C.out _ (by exact i.out.drew)).mono ?_;rintro e w8 ⟨rfl,D⟩)
       all_goals
        subst D;have A:Hid (ab [] w y.drew):=(v.out.trans i.out).drew;go_wp2;go_ret;exact⟨QN o.out.symm,PB.stay (by rw[o.out];decide) A.out⟩
      ·rw[QT R]at p
       have HM:=hI (ax.out p.out)
       go_upto_region 9 with fail
       go_region_with (go_at_call 35;refine(C.out _ (by exact i.out.drew)).mono ?_;rintro e w8 ⟨rfl,D⟩)
       all_goals
        subst D;have A:Hid (ab [] w y.drew):=(v.out.trans i.out).drew;go_wp2
        go_roundg (a.length-(k+1))
        case measure=>omega
        case rel=>exact⟨k+1,by omega,rfl,by go_num,HM,A⟩
   ·have e:k=a.length:=by omega
    subst e;have o:Hid (r=0):=by show _=_;rw[K.out];exact HZ.out
    have a2:¬(a.length:Int)<(a.length:Int):=by omega
    have G:=hI (HR.out.Vb v.out);have aS:aw wr ⟨none,0⟩ (cr []):=QZ _ _ _ _;have a0:=hI (mV.Vb X.out v.out)
    have az:Hid (∀z,E=some z->∀j u,(qK a)[j]?=some u->wr.cell? (z.add j)=some u):=fun z e j u hu=>by
     obtain⟨g,rfl⟩:=Z.out z e;rw[bL];exact Le (by rw[<-e];exact a0.out) j u hu
    have ar:Hid ((cr ([]:Fs)).n+a.length<=1000000000):=by show 0+a.length<=_;omega
    have af:Hid (∀m:Nat,(cr ([]:Fs)).n+m=m):=fun m=>SJ m
    go_upto_region 12 with fail
    go_wp2_with (at_builtin;refine ed _ rfl (.const (.slice none 0 0)) (.tmp 43) 33 rfl iF (.agg #[.string ⟨#[]⟩,.string ⟨#[]⟩]) 32 ⟨none,0⟩ (cr []) underlying33 ap U V P rfl Uq rfl aS E a.length f (qK a) rfl (vn a) HN.out az.out (Gj a) ar.out (by omega) ?_;intro h5 w5 O Q;have K5:ab [] wr w5:=(Q.kept.mono (by simp[Hd.blk]));have M:=K5.get G.out.d (by simp);have v0:w5.cell? ⟨L,0,none⟩=some (.slice h.ao H.length h.cap):=(by rw[aa M];rfl);have v1:w5.cell? ⟨L,1,none⟩=some (.bool on):=(by rw[aa M];rfl);have e0:=am M 0;have e1:=am M 1;have vz:=ae M);go_ret
    have er:(⟨(cr []).e,(cr []).size,(cr []).n+a.length,(cr []).xs++qK a⟩:dN)=cr a:=by
     show dN.mk _ _ (0+a.length) ([]++qK a)=_
     rw[SJ];rfl
    rw[er]at O
    have J:∀q,h5.blk=some q->wr.heap.size<=q:=by
     intro q W
     rcases Q.blk with e | ⟨g,e,hg⟩
     ·rw[e]at W;cases W
     ·rw[e]at W;cases W;exact hg
    have ai:=(G.out.newRow K5 O J (by omega) (af.out a.length)).off;have Y:=hI (yO (fs0:=H) (Hr.out.trans o.out));exact⟨QN o.out.symm,by rw[Y.out];exact⟨fun _=>⟨h5,ai,(((v.out.trans K5).mono (by simp)).setCell (Q1 (by simp)) _).setCell (Q1 (by simp)) _,fun b hb=>QV (Q3 v.out.size (J b hb))⟩,fun q=>absurd o.out q⟩⟩
end Go.Proofs.YtpddjjabfbfifaaGreat

import Derived.Test.YtpddjjabfbfifaaGreatG12
import Derived.Test.YtpddjjabfbfifaaGreatG14
namespace Go.Proofs.YtpddjjabfbfifaaGreat
open Go.RowKit Tryz
set_option maxHeartbeats 0
variable{i z4:ByteArray}{w x u t y0 y5:Nat}{z1:List ByteArray}{y:List Tk}{z6:Tk}{o:List Sm}{n k:World}{p zb:Option Addr}{z7:List Nat}{I M N z5 y6 y7:Value}{d:Fs}{D c:Hd}{z2:Bool}(z0:Nat)(H:Fs)(g L:ByteArray)(v l:Nat)(b:List Tk)(z3:Nat->List Bool->List Tk->List Tk×List Bool)
theorem iW{l m:List UInt8}(h:(i.toList==l)=true):(i.toList==m)=(l==m):=by
 have:i.toList=l:=by simpa using h
 rw[this]
section
variable {T:List Tk} {S:List Sm} {f:Nat}
structure vE(T:List Tk)(S:List Sm)(j:Nat):Prop where
 le:(au S j).h<=(au S j).z-1
 zt:(au S j).z<=T.length
 pos:0<(au S j).z
 dot:((tS T ((au S j).z-1)).toList == [36,46])=true
 cl:ip (au S j).k (fa T (au S j).h ((au S j).z-1))=0
 w:∀q,(au S j).h<=q->q<(au S j).z-1->lW T S (au S j).k (tS T q) j (fa T (au S j).h q)=0/\bS (tS T q)=false
theorem oQ(p:Dt T T.length S f)(c:∀q,q<T.length->bh T S q=0)(j:Nat)(h:j<S.length)(u:bS (au S j).k=false):vE T S j:=by
 have t:=GT p j h;obtain⟨P,o⟩:=p.s j h
 have b:(au S j).h<=(au S j).z-1->(au S j).a<(au S j).h->vE T S j:=fun l A=>by
  have B:=P.lt;have r:=c ((au S j).z-1) (by omega);rw[t ((au S j).z-1) (by omega) (by omega),QT (by omega),QT (by omega)]at r;obtain⟨v,w⟩:=wU P.e r;refine⟨l,o,by omega,v,w,fun q F y=>?_⟩;have Q:=c q (by omega);rw[t q (by omega) (by omega),QT (by omega),QT (by omega)]at Q;exact⟨Q,P.n q (by omega) y⟩
 have d:=P.k;have G:=P.lt;unfold ew at d
 by_cases g:(ii (tS T (au S j).a) ⟨#[36]⟩||decide (T.length<=(au S j).a+1))=true
 ·rw[QW g]at d
  have i:(au S j).k=tS T (au S j).a:=congrArg Prod.fst d;have x:(au S j).h=(au S j).a+1:=congrArg Prod.snd d;refine b ?_ (by omega)
  by_cases C:(au S j).z-1=(au S j).a
  ·have:=P.e
   rw[C,<-i,u]at this
   cases this
  ·omega
 ·rw[QT g]at d
  have i:(au S j).k=tS T ((au S j).a+1):=congrArg Prod.fst d;have x:(au S j).h=(au S j).a+2:=congrArg Prod.snd d
  have m:ii (tS T (au S j).a) ⟨#[36]⟩=false:=by
   cases e:ii (tS T (au S j).a) ⟨#[36]⟩
   ·rfl
   ·rw[e]at g;exact absurd rfl g
  refine b ?_ (by omega)
  have D:(au S j).z-1≠(au S j).a:=fun e=>by
   have:=(kM P.e).1;rw[e,m]at this;cases this
  have E:(au S j).z-1≠(au S j).a+1:=fun e=>by
   have:=P.e;rw[e,<-i,u]at this;cases this
  omega
theorem se(T:List Tk)(h i q:Nat)(a:h+q<i)(b:i<=T.length):(fa T h i).getD q ⟨#[]⟩=tS T (h+q):=by
 unfold fa tS;rw[QQ,Rq,Tj,QW (by omega),SV,QQ];rw[QP (by omega)];rfl
theorem pF(T:List Tk)(h i:Nat)(a:h<=i)(b:i<=T.length):(fa T h i).length=i-h:=by
 unfold fa;rw[Ri,RQ,RT];omega
theorem xj(P:vE T S w):bu T (au S w).h=(fa T (au S w).h ((au S w).z-1)).takeWhile kB:=by
 have i:=P.zt;have g:=P.pos;have c:=P.le;unfold bu
 have e:T.drop (au S w).h=(T.drop (au S w).h).take ((au S w).z-1-(au S w).h)++(T.getD ((au S w).z-1) jf) :: T.drop (au S w).z:=by
  conv=>lhs;rw[<-Ul ((au S w).z-1-(au S w).h) (T.drop (au S w).h)]
  rw[List.drop_drop,show(au S w).h+((au S w).z-1-(au S w).h)=(au S w).z-1 by omega,Ge T ((au S w).z-1) (by omega),show(au S w).z-1+1=(au S w).z by omega]
 rw[e,show ∀(L:List Tk) (t:Tk) (M:List Tk),L++t :: M=(L++[t])++M from fun L t M=>by simp,yk]
 ·rw[vO _ _ (fun u f=>?_) P.dot]
  ·rfl
  ·obtain⟨q,d,a⟩:=R0 f
   rw[RQ,RT]at d;have:=(P.w ((au S w).h+q) (by omega) (by omega)).2;unfold bS at this;simp only[Bool.or_eq_false_iff]at this
   have b:u.s=tS T ((au S w).h+q):=by
    rw[<-a,List.getElem_take,TI];unfold tS;rw[QQ,QP (by omega)];rfl
   rw[b];exact this.1.1
 ·exact⟨T.getD ((au S w).z-1) jf,by simp,tA P.dot⟩
theorem qz(P:vE T S w):cU T (au S w).h:=⟨(au S w).z-1,P.le,by have:=P.zt;have:=P.pos;omega,tA P.dot⟩
theorem vu(h:lW T S i z4 w z1=0)(a:(z4.toList == [36,61])=true):(i.toList == [36,112])=true/\aJ z1 ⟨#[36,61]⟩=false/\z1.length≠0:=by
 unfold lW at h;rw[iW a (m:=[36,46]),QT (by decide),a,Sv]at h
 cases b:(i.toList == [36,112])
 ·rw[b,TQ,QT (by simp),QW (by rw[oD a];decide +kernel)]at h;cases h
 ·cases c:aJ z1 ⟨#[36,61]⟩
  ·rw[b,c]at h
   by_cases d:z1.length=0
   ·rw[QW (by rfl),QW d]at h;cases h
   ·exact⟨rfl,rfl,d⟩
  ·rw[b,c,QT (by decide),QW (by rw[oD a];decide +kernel)]at h;cases h
end
section
variable {T:List Tk} {S:List Sm} {f:Nat}
theorem zG(T:List Tk)(h:Nat):fa T h h=[]:=by unfold fa;rw[RY];simp
theorem vx(P:vE T S w):0<(fa T (au S w).h ((au S w).z-1)).length/\(((au S w).k.toList == [36,102])=true->1<(fa T (au S w).h ((au S w).z-1)).length):=by
 have a:=P.cl;unfold ip at a
 split at a
 ·cases a
 ·next e =>
  split at a
  ·cases a
  ·next b =>
   refine⟨by omega,fun c=>?_⟩;have:¬(fa T (au S w).h ((au S w).z-1)).length<2:=fun d=>b (by rw[c];simp[d])
   omega
theorem zF(c:w<=x)(a:x<=T.length)(f:aJ (fa T w x) i=true):∃q,w<=q/\q<x/\tS T q=i:=by
 unfold aJ at f;obtain⟨y,j,e⟩:=RC.1 f;obtain⟨q,d,g⟩:=R0 j;rw[pF T w x c a]at d;refine⟨w+q,by omega,by omega,?_⟩;have b:=se T w x q (by omega) a;rw[QQ,QP (by rw[pF T w x c a];exact d)]at b;have h:(fa T w x)[q]=tS T (w+q):=b;rw[<-h,g];have:y.toList=i.toList:=by simpa using e
 apply U4
 apply Un.1
 rw[<-RZ,<-RZ,this]
theorem ut(P:vE T S w)(d:((au S w).k.toList == [36,112])=false):bu T (au S w).h=fa T (au S w).h ((au S w).z-1):=by
 rw[xj P];refine vp _ ?_
 cases e:aJ (fa T (au S w).h ((au S w).z-1)) ⟨#[36,61]⟩
 ·rfl
 ·have i:=P.zt
  have g:=P.pos;obtain⟨q,b,c,a⟩:=zF P.le (by omega) e;have f:=(P.w q b c).1;have:=(vu f (by rw[a];decide +kernel)).1;rw[d]at this;cases this
theorem uq(P:vE T S w):((tS T (au S w).h).toList == [36,61])=false/\(au S w).h<(au S w).z-1:=by
 have b:=(vx P).1;have f:=P.zt;have d:=P.pos;rw[pF T _ _ P.le (by omega)]at b;have a:(au S w).h<(au S w).z-1:=by omega
 refine⟨?_,a⟩
 cases e:((tS T (au S w).h).toList == [36,61])
 ·rfl
 ·have c:=(P.w _ (QR _) a).1
  have:=(vu c e).2.2;rw[zG]at this;exact absurd rfl this
theorem zk(P:vE T S w):0<(bu T (au S w).h).length/\(bu T (au S w).h).getD 0 ⟨#[]⟩=tS T (au S w).h:=by
 obtain⟨b,f⟩:=uq P;have g:=P.zt;have a:=se T (au S w).h ((au S w).z-1) 0 (by omega) (by omega);have c:=(vx P).1;rw[xj P];rw[Tg]at a;generalize fa T (au S w).h ((au S w).z-1)=B at *
 cases B with
 | nil=>simp at c
 | cons x B =>
  have e:x=tS T (au S w).h:=a;have d:kB x=true:=by unfold kB;rw[e,b];rfl
  rw[SN d];exact⟨by simp,e⟩
theorem PZ(p:Dt T T.length S f)(b:∀q,q<T.length->bh T S q=0)(n:Nat)(i:n<=S.length):Kk T S n:=fun j g c=>by
 have a:bS (au S j).k=false:=by
  unfold aC aG at c;simp only[Bool.or_eq_true]at c
  rcases c with (h | h) | (h | h) <;> exact fX h (by decide)
 have P:=oQ p b j (by omega) a;refine⟨(zk P).1,fun e=>?_⟩;have d:((au S j).k.toList == [36,112])=false:=by rw[iW e];decide
 show 1<(bu T (au S j).h).length
 rw[ut P d];exact(vx P).2 e
theorem wV(h:lW T S i z4 w z1=0)(a:bS z4=false)(d:(z4.toList == [36,61])=false)(b:aJ z1 ⟨#[36,61]⟩=false):(if((i.toList == [36,99])||(i.toList == [36,118]))=true then jW T S z4 w (i.toList == [36,99]) z1 else jm T S i z4 w z1)=0:=by
 unfold lW at h
 have c:(z4.toList == [36,46])=false:=by
  unfold bS at a;simp only[Bool.or_eq_false_iff]at a;exact a.1.1
 rw[c,d,b,QT (by simp),TQ,QT (by simp)]at h
 split at h
 ·cases h
 ·exact h
theorem MI(P:vE T S w)(c:(aC (au S w).k||aG (au S w).k)=true):eF T S (tS T (au S w).h) w=true:=by
 obtain⟨e,f⟩:=uq P;obtain⟨d,i⟩:=P.w _ (QR _) f;rw[zG]at d;have b:=wV d i e rfl
 have a:(((au S w).k.toList == [36,99])||((au S w).k.toList == [36,118]))=false/\((au S w).k.toList == [36,100])=false:=by
  unfold aC aG at c;simp only[Bool.or_eq_true]at c
  rcases c with (h | h) | (h | h) <;> (rw[iW h,iW h,iW h];decide)
 rw[a.1,QT (by simp)]at b;unfold jm at b;rw[a.2,QT (by simp),QW (by rfl)]at b
 cases g:eF T S (tS T (au S w).h) w
 ·rw[g,QW rfl]at b;cases b
 ·rfl
theorem P0(P:vE T S w)(a:((au S w).k.toList == [36,102])=true):kZ T S (tS T ((au S w).h+1)) w=true/\(bu T (au S w).h).getD 1 ⟨#[]⟩=tS T ((au S w).h+1):=by
 have l:=(vx P).2 a;have p:=P.zt;have o:=P.pos;rw[pF T _ _ P.le (by omega)]at l;have b:((au S w).k.toList == [36,112])=false:=by rw[iW a];decide
 have j:=se T (au S w).h ((au S w).z-1) 1 (by omega) (by omega);refine⟨?_,by rw[ut P b];exact j⟩;obtain⟨f,i⟩:=P.w ((au S w).h+1) (by omega) (by omega)
 have m:((tS T ((au S w).h+1)).toList == [36,61])=false:=by
  cases e:((tS T ((au S w).h+1)).toList == [36,61])
  ·rfl
  ·have:=(vu f e).1
   rw[b]at this;cases this
 have d:fa T (au S w).h ((au S w).h+1)=[tS T (au S w).h]:=by
  have:=Be T (au S w).h (au S w).h (QR _) (by omega);rw[zG]at this;exact this
 have g:aJ (fa T (au S w).h ((au S w).h+1)) ⟨#[36,61]⟩=false:=by
  rw[d,ru];have e:(⟨#[36,61]⟩:ByteArray).toList=[36,61]:=by decide +kernel
  rw[e];exact(uq P).1
 have c:=wV f i m g;rw[iW a,iW a,QT (by decide)]at c;unfold jm at c;rw[d,iW a,QT (by decide),QT (by simp),a,QW rfl,QT (by simp)]at c
 cases n:kZ T S (tS T ((au S w).h+1)) w
 ·rw[n,QW rfl]at c;cases c
 ·rfl
theorem Ct(p:Dt T T.length S f)(n:∀q,q<T.length->bh T S q=0)(hi:w<=S.length)(hk:x<=S.length)(s:eF T S i w=true)(t:kZ T S i x=true):False:=by
 unfold eF jq at s;unfold kZ jq at t;obtain⟨j,u,v⟩:=RC.1 s;obtain⟨m,I,y⟩:=RC.1 t;have u:=Ra.1 u;have I:=Ra.1 I;unfold pG at v y;rw[nR.1,Rg,Rg]at v;rw[nR.2,Rg,Rg]at y;obtain⟨l,G,-⟩:=v;obtain⟨F,L,-⟩:=y
 have c:∀(j:Nat),j<S.length->(((au S j).k.toList == [36,99])=true∨((au S j).k.toList == [36,118])=true)->aJ (bu T (au S j).h) i=true->∃B,jW T S i j ((au S j).k.toList == [36,99]) B=0:=fun j u a H=>by
  have d:bS (au S j).k=false:=by rcases a with h | h <;> exact fX h (by decide)
  have P:=oQ p n j u d;have o:((au S j).k.toList == [36,112])=false:=by rcases a with h | h <;> (rw[iW h];decide)
  rw[ut P o]at H;have hz:=P.zt;have Y:=P.pos;obtain⟨q,E,K,e⟩:=zF P.le (by omega) H;obtain⟨W,V⟩:=P.w q E K
  have b:∀q,(au S j).h<=q->q<(au S j).z-1->((tS T q).toList == [36,61])=false:=fun q s t=>by
   cases e:((tS T q).toList == [36,61])
   ·rfl
   ·have:=(vu (P.w q s t).1 e).1
    rw[o]at this;cases this
  have Q:aJ (fa T (au S j).h q) ⟨#[36,61]⟩=false:=by
   cases O:aJ (fa T (au S j).h q) ⟨#[36,61]⟩
   ·rfl
   ·obtain⟨Z,M,a2,N⟩:=zF E (by omega) O
    have:=b Z M (by omega);rw[N]at this;exact absurd this (by decide +kernel)
  have J:=wV W V (b q E K) Q;rw[QW (by rcases a with h | h <;> rw[h] <;> simp),e]at J;exact⟨_,J⟩
 obtain⟨B1,g⟩:=c j (by omega) (Q1 l) G;obtain⟨B2,k⟩:=c m (by omega) (QV F) L;have r:((au S m).k.toList == [36,99])=false:=by rw[iW F];decide
 rw[l]at g;rw[r]at k;unfold jW at g k
 rcases Nat.lt_trichotomy j m with D | A | C
 ·have R:eF T S i m=true:=by
   unfold eF jq;exact mZ j D (by unfold pG;rw[nR.1,l,G];simp)
  rw[R]at k
  split at k
  ·cases k
  ·simp at k
 ·rw[A,r]at l;cases l
 ·have U:jq T S ⟨#[36,118]⟩ i j false=true:=by
   unfold jq;exact mZ m C (by unfold pG;rw[nR.2,F,L];simp)
  have X:jC T S i j=true:=by unfold jC;rw[U];simp
  rw[X]at g
  split at g
  ·cases g
  ·simp at g
theorem Qx(p:Dt T T.length S f)(a:∀q,q<T.length->bh T S q=0)(n:Nat)(A:n<=S.length):OL T S n:=fun r B g=>by
 have P:=oQ p a r (by omega) (by unfold aC at g;rcases RB _ _ ▸ g with h | h <;> exact fX h (by decide));have w:=MI P (by rw[g];rfl);have s:(cI T S r).getD 0 ⟨#[]⟩=tS T (au S r).h:=(zk P).2;rw[s]
 cases e:aJ (gK T S (bW T S r) (bW T S r).length) (tS T (au S r).h)
 ·rfl
 ·exfalso
  unfold aJ at e;obtain⟨y,l,d⟩:=RC.1 e;unfold gK at l;obtain⟨i,k,rfl⟩:=Si.1 l;unfold xO at k;obtain⟨b,c⟩:=RH.1 k;have b:=Ra.1 b;have v:(bW T S r).getD i 0=(bW T S r)[i]:=by rw[QQ,QP b];rfl
  unfold GI at c;rw[v]at c d;have z:=sK T S r (bW T S r)[i] (Rb b);generalize (bW T S r)[i]=j at *;have o:=oQ p a j (by omega) (fX c (by decide));obtain⟨m,x⟩:=P0 o c;have t:cI T S j=bu T (au S j).h:=rfl;rw[t,x]at d
  have u:tS T ((au S j).h+1)=tS T (au S r).h:=by
   have:(tS T ((au S j).h+1)).toList=(tS T (au S r).h).toList:=by simpa using d
   apply U4
   apply Un.1
   rw[<-RZ,<-RZ,this]
  rw[u]at m;exact Ct p a (by omega) (by omega) w m
end
theorem J9(d:b.length<=10000)(a:∀q,q<b.length->bh b (aj b) q=0)(n:Nat)(g:n<=(aj b).length):nK b (aj b) n:=by
 have p:=fw b;have k:(aj b).length<=b.length:=oG b b.length;obtain⟨i,c⟩:=Ao b (by omega) a;have h:nK b (aj b) (aj b).length:=⟨i,by omega,d,fun j e f=>qz (oQ p a j e f),c⟩;exact h.mono g
def FQ(S:List Sm)(a r:Nat):Prop:=r<a/\(aC (au S r).k||aG (au S r).k)=true
structure OK(T:List Tk)(S:List Sm)(a i:Nat)(s:dj):Prop where
 nd:s.need<=10000
 Vm:s.ref=-1∨(s.ref=-2/\s.back<i)∨∃r,FQ S a r/\s.ref=(r:Nat)/\s.need=iD T S (r:Nat)
def mU(T:List Tk)(S:List Sm)(a:Nat)(P:List dj):Prop:=∀i,i<P.length->OK T S a i (bO P i)
section
variable {T:List Tk} {S:List Sm} {a:Nat}
theorem mU.snoc{P:List dj}{s:dj}(h:mU T S a P)(f:OK T S a P.length s):mU T S a (P++[s]):=fun i d=>by
 rw[Q0,Rp,Rs]at d
 by_cases e:i<P.length
 ·have b:bO (P++[s]) i=bO P i:=by unfold bO;rw[QQ,QQ,Q7 e]
  rw[b];exact h i e
 ·have c:i=P.length:=by omega
  have b:bO (P++[s]) i=s:=by unfold bO;rw[c,QQ,Q5 (QR _),RY];rfl
  rw[b,c];exact f
theorem mU.nil:mU T S a []:=fun i b=>by simp at b
theorem Cu(b:a<=10000)(c:w<a):iD T S (w:Nat)<=10000:=by
 unfold iD
 split
 ·omega
 ·split
  ·have:=kj T S (w:Int).toNat
   rw[Sa]at this ⊢;omega
  ·omega
theorem zo(h:eU T S a i=(w:Int)):FQ S a w:=by
 have d:=p9 T S a i;rw[h]at d
 rcases d with e | ⟨q,l,e⟩
 ·omega
 ·have f:w=q:=by omega
  subst f;refine⟨l,?_⟩;unfold eU at h
  split at h
  ·omega
  ·split at h
   ·unfold bE at h
    cases c:(List.range a).find? (qL T S i) with
    | none=>rw[c]at h;simp at h
    | some j =>
     rw[c]at h;have g:j=w:=by have h:(j:Int)=(w:Int):=h;omega
     have b:=Tm c;rw[g]at b;unfold qL at b;rw[Rg]at b
     cases k:(aC (au S w).k||aG (au S w).k)
     ·exfalso
      have:bG T (au S w)=⟨#[]⟩:=by unfold bG;rw[k,QT (by simp)]
      rw[this]at b;exact absurd b.1 (by decide +kernel)
     ·rfl
   ·omega
theorem La(m:a<=10000)(e:Nat)(n:Nat):∀i P,mU T S a P->mU T S a (m9 T S a e n i P).st/\((m9 T S a e n i P).why=0->0<(m9 T S a e n i P).st.length)/\(m9 T S a e n i P).st.length<=P.length+n:=by
 induction n with
 | zero =>
  intro i P d;rw[m9]
  split
  ·exact⟨mU.nil,fun h=>(by cases h),Ro _⟩
  ·exact⟨d,fun _=>(by simp only;omega),(by simp)⟩
 | succ n l =>
  intro i P d;rw[m9]
  split
  ·obtain⟨b,c,f⟩:=l (i+1) _ (d.snoc (s:=⟨-1,0,0,(T.getD i jf).file,(T.getD i jf).line,(T.getD i jf).col⟩) ⟨by show 0<=10000;omega,Q1 rfl⟩)
   exact⟨b,c,by simp at f ⊢;omega⟩
  ·split
   ·exact⟨mU.nil,fun h=>(by cases h),Ro _⟩
   ·next b c =>
    obtain⟨k,g⟩:∃k:Nat,eU T S a (tS T i)=k:=⟨(eU T S a (tS T i)).toNat,by omega⟩
    have j:=zo g;rw[g];obtain⟨b,c,f⟩:=l (i+1) _ (d.snoc (s:=⟨(k:Int),0,iD T S (k:Int),(T.getD i jf).file,(T.getD i jf).line,(T.getD i jf).col⟩) ⟨Cu m j.1,QV (QV ⟨k,j,rfl,rfl⟩)⟩);exact⟨b,c,by simp at f ⊢;omega⟩
theorem Mw(A:a<=10000)(d:List Nat)(n:∀r∈d,FQ S a r)(v:Lt)(L:List Lt):∀P b f g,mU T S a P->(∀t∈b,t<P.length)->(g=true->0<P.length) ->
  mU T S a (nj T S d v L P b f g).st/\((nj T S d v L P b f g).why=0->0<(nj T S d v L P b f g).st.length)/\(nj T S d v L P b f g).st.length<=P.length+L.length:=by
 induction L with
 | nil =>
  intro P b f g o _ _;rw[nj]
  split
  ·exact⟨mU.nil,fun h=>(by cases h),Ro _⟩
  ·split
   ·exact⟨mU.nil,fun h=>(by cases h),Ro _⟩
   ·exact⟨o,fun _=>(by simp only;omega),(by simp)⟩
 | cons l L w =>
  intro P b f g o p z;rw[nj]
  split
  ·obtain⟨i,j,k⟩:=w P b (f++Du l.c) false o p (fun h=>by cases h)
   exact⟨i,j,by simp at k ⊢;omega⟩
  ·split
   ·split
    ·exact⟨mU.nil,fun h=>(by cases h),Ro _⟩
    ·next y =>
     have B:=yS (f++Du l.c) (d.length+b.length);generalize iO (f++Du l.c) (d.length+b.length)=m at *
     have D:OK T S a P.length (rN T S d b m l):=by
      unfold rN
      split
      ·next C =>
       have q:m-1<d.length:=by omega
       have e:d.getD (m-1) 0=d[m-1]:=by rw[QQ,QP q];rfl
       have x:=n d[m-1] (Rb q);rw[e];exact⟨Cu A x.1,QV (QV ⟨_,x,rfl,rfl⟩)⟩
      ·next C =>
       have q:m-d.length-1<b.length:=by omega
       have e:b.getD (m-d.length-1) 0=b[m-d.length-1]:=by rw[QQ,QP q];rfl
       rw[e];exact⟨by show 0<=10000;omega,QV (Q1 ⟨rfl,p _ (Rb q)⟩)⟩
     obtain⟨i,j,k⟩:=w _ b ⟨#[]⟩ true (o.snoc D) (fun t u=>by rw[Q0];have:=p t u;omega) (fun _=>by simp);exact⟨i,j,by simp at k ⊢;omega⟩
   ·split
    ·next y =>
     have E:=z y.2
     obtain⟨i,j,k⟩:=w P (b++[P.length-1]) f false o (fun t u=>by
      rcases Rr.1 u with h | h
      ·exact p t h
      ·rw[Q9.1 h];omega) (fun h=>by cases h)
     exact⟨i,j,by simp at k ⊢;omega⟩
    ·split
     ·obtain⟨i,j,k⟩:=w _ b f false (o.snoc (s:=⟨-1,0,0,l.file,l.line,l.col⟩) ⟨by show 0<=10000;omega,Q1 rfl⟩) (fun t u=>by rw[Q0];have:=p t u;omega) (fun h=>by cases h)
      exact⟨i,j,by simp at k ⊢;omega⟩
     ·exact⟨mU.nil,fun h=>(by cases h),Ro _⟩
theorem NU(o:a<=10000)(m:dC T)(c:Nat)(n:Nat):∀i b,(∀r∈b,FQ S a r)->mU T S a (ve T S a c n i b).st/\((ve T S a c n i b).why=0->0<(ve T S a c n i b).st.length)/\(ve T S a c n i b).st.length<=1024*T.length:=by
 induction n with
 | zero=>intro i b _;rw[ve];exact⟨mU.nil,fun h=>(by cases h),Ro _⟩
 | succ n q =>
  intro i b l;rw[ve]
  split
  ·obtain⟨e,f,g⟩:=Mw (T:=T) o b l (Ez (T.getD c jf)) (eR T (i+1) c) [] [] ⟨#[]⟩ false mU.nil (fun t p=>by cases p) (fun h=>by cases h)
   have:=xg T m (i+1) c;rw[Rs,SJ]at g;exact⟨e,f,by unfold j4;omega⟩
  ·split
   ·exact⟨mU.nil,fun h=>(by cases h),Ro _⟩
   ·split
    ·exact⟨mU.nil,fun h=>(by cases h),Ro _⟩
    ·next e f g =>
     obtain⟨k,j⟩:∃k:Nat,eU T S a (tS T i)=k:=⟨(eU T S a (tS T i)).toNat,by omega⟩
     refine q (i+1) _ (fun r d=>?_)
     rcases Rr.1 d with h | h
     ·exact l r h
     ·rw[Q9.1 h,j,Sa];exact zo j
theorem vV(g:a<=10000)(h:dC T)(l:T.length<=10000)(e b:Nat)(m:b<=T.length):mU T S a (fU T S a e b).st/\((fU T S a e b).why=0->0<(fU T S a e b).st.length)/\(fU T S a e b).st.length<=100000000:=by
 unfold fU
 split
 ·unfold jQ
  obtain⟨c,d,f⟩:=NU (T:=T) (S:=S) g h b (b-(e+2)) (e+2) (bW T S a) (fun r i=>by
   obtain⟨j,-,k⟩:=yG T S a r i;exact⟨j,by rw[k];simp⟩)
  exact⟨c,d,by omega⟩
 ·obtain⟨c,d,f⟩:=La (T:=T) (S:=S) g b (b-(e+1)) (e+1) [] mU.nil
  exact⟨c,d,by simp at f;omega⟩
theorem Ib(n:a<=10000)(l:dC T)(m:T.length<=10000)(e b:Nat)(q:b<=T.length):Kq T S a (fU T S a e b):=by
 obtain⟨g,s,t⟩:=vV (T:=T) (S:=S) n l m e b q;refine⟨t,fun i=>?_,fun h=>⟨s h,fun i c d=>⟨?_⟩⟩⟩
 ·by_cases c:i<(fU T S a e b).st.length
  ·have:=(g i c).nd;omega
  ·have:bO (fU T S a e b).st i=Ql:=by unfold bO;rw[QQ,Rx (by omega)];rfl
   rw[this];show 0<=100000;omega
 ·rcases(g i c).Vm with h | ⟨h,o⟩ | ⟨r,f,j,k⟩
  ·exact absurd h d
  ·exact Q1 ⟨h,o⟩
  ·refine QV ⟨r,f.1,j,f.2,fun p=>?_⟩
   rw[k];unfold iD;rw[QT (by omega),Sa,QW p]
end
def xC(t:Tk):Prop:=t.s.size<=1024/\0<=t.col/\t.col<=10000
theorem zT:dC []:=fun t a=>by cases a
theorem mh{M:List Tk}(h:dC y)(k:dC M):dC (y++M):=fun t a=>by
 rcases Rr.1 a with e | e
 ·exact h t e
 ·exact k t e
theorem lG(h:xC z6):dC [z6]:=fun u a=>by rw[Q9.1 a];exact h
theorem sH(r:Int)(h:xC z6):xC (qO z6 r):=⟨by show(0:Nat)<=1024;omega,h.2⟩
theorem AG(s:ByteArray)(r:Int)(k:Nat)(a:s.size<=1024)(b:k<=1024):xC (me g L s r k):=by
 have:=zL L k;exact⟨a,by show 0<=bm L k;omega,by show bm L k<=10000;omega⟩
theorem Dr(a:dC b)(c:v<=l)(d:l<=1024):dC (je g L v l b):=by
 unfold je
 split
 ·exact a
 ·exact mh a (lG (AG g L _ 0 v (by rw[Tw];omega) (by omega)))
theorem Dp(i:Nat)(b:i<=1024):dC (jd g L i):=by
 induction i with
 | zero=>exact zT
 | succ i a =>
  rw[jd]
  split
  ·exact Dr g L _ i _ (a (by omega)) (oh L i) (by omega)
  ·exact a (by omega)
theorem Kg(a:L.size<=1024):dC (ij g L):=by
 unfold ij
 split
 ·next i h =>
  have b:i<L.size:=Ra.1 (Rz h);exact mh (Dp g L i (by omega)) (lG (AG g L _ 1 i (by show(0:Nat)<=1024;omega) (by omega)))
 ·exact mh (Dr g L _ _ _ (Dp g L _ a) (oh L _) a) (lG (AG g L _ 0 _ (by show(0:Nat)<=1024;omega) a))
theorem wg(h:xC z6)(k:dC y):dC (z6 :: y):=fun u a=>by
 rcases Rj.1 a with e | e
 ·rw[e];exact h
 ·exact k u e
theorem KG(b:Bool)(L:List Tk)(h:dC L):dC (bQ b L):=by
 induction L generalizing b with
 | nil=>cases b <;> exact zT
 | cons t L c =>
  have d:xC t:=h t (Rn ..);have a:dC L:=fun u f=>h u (Rm _ f)
  have e:∀r,xC ⟨⟨#[]⟩,r,t.file,t.line,t.col⟩:=fun r=>⟨by show(0:Nat)<=1024;omega,d.2⟩
  cases b
  ·rw[bQ]
   split
   ·exact c true a
   ·exact wg d (c false a)
  ·rw[bQ]
   split
   ·exact wg d (c true a)
   ·split
    ·exact c false a
    ·split
     ·exact wg (e 3) (c true a)
     ·split
      ·exact lG (e 2)
      ·exact c true a
theorem Jp(f:∀k e c,dC c->dC (z3 k e c).1)(v:Fs)(n:Nat):∀L,L.length<=n->dC L->∀e c,dC c->dC (cv z3 v L e c).1:=by
 induction n with
 | zero =>
  intro L l _ e c d
  cases L with
  | nil=>rw[cv];exact d
  | cons _ _=>simp at l
 | succ n p =>
  intro L l q e c d
  cases L with
  | nil=>rw[cv];exact d
  | cons t r =>
   have m:xC t:=q t (Rn ..);have j:dC r:=fun u o=>q u (Rm _ o)
   have g:r.length<=n:=by simpa using l
   rw[cv.eq_def];simp only
   split
   ·split
    ·exact d
    ·exact mh d (lG (sH 7 m))
   ·split
    ·exact p r g j e _ (mh d (lG m))
    ·split
     ·exact mh d (lG (sH 4 m))
     ·cases r with
      | nil=>exact d
      | cons a r =>
       have s:xC a:=j a (Rn ..)
       cases r with
       | nil=>exact mh d (lG (sH _ s))
       | cons b r =>
        have w:xC b:=j b (Rm _ (Rn ..));have i:dC r:=fun u o=>j u (Rm _ (Rm _ o))
        have h:r.length<=n:=by simp at g;omega
        simp only
        split
        ·exact mh d (lG (sH _ s))
        ·split
         ·exact mh d (lG (sH _ w))
         ·split
          ·exact p r h i e c d
          ·split
           ·exact f _ e c d
           ·exact p r h i _ _ (f _ e c d)
theorem Jt(b:∀k,(ak H k).size<=1024)(n:Nat):∀k d a,dC a->dC (dQ H n k d a).1:=by
 induction n with
 | zero=>intro k d a c;exact c
 | succ n e =>
  intro k d a c;rw[dQ];exact Jp _ e H _ _ (QR _) (KG _ _ (Kg _ _ (b k))) _ _ c
theorem BG(a:∀l,(ak H l).size<=1024):dC (cC H l).1:=by
 have h:dC (pt H l):=Jt H a _ _ _ _ zT;unfold cC
 split
 ·exact fun t b=>h t (TP _ b)
 ·exact h
def zP(T:List Tk)(S:List Sm)(j:Nat):Nat:=(au S j).h+(bu T (au S j).h).length
theorem Qm(p:ByteArray->Bool)(L:List ByteArray)(h:∃x∈L,p x=false):(L.takeWhile p).length<L.length/\p (L.getD (L.takeWhile p).length ⟨#[]⟩)=false/\∀q,q<(L.takeWhile p).length->p (L.getD q ⟨#[]⟩)=true:=by
 induction L with
 | nil=>obtain⟨x,f,-⟩:=h;cases f
 | cons a L j =>
  cases b:p a
  ·rw[List.takeWhile_cons,QT (by rw[b];simp)]
   exact⟨by simp,b,fun q d=>by simp at d⟩
  ·rw[List.takeWhile_cons,QW b]
   obtain⟨k,g,i⟩:=j (by
    obtain⟨x,f,c⟩:=h
    rcases Rj.1 f with e | e
    ·rw[e,b]at c;cases c
    ·exact⟨x,e,c⟩)
   refine⟨by simp;omega,g,fun q d=>?_⟩
   cases q with
   | zero=>exact b
   | succ q=>exact i q (by simpa using d)
theorem Px(P:vE y o w)(m:((au o w).k.toList == [36,112])=true) :
  (au o w).h<=zP y o w/\((tS y (zP y o w)).toList == [36,61])=true/\(∀q,(au o w).h<=q->q<zP y o w->((tS y q).toList == [36,61])=false)/\zP y o w<(au o w).z-1:=by
 have s:=P.zt;have r:=P.pos;have d:=P.le;have a:=P.cl;have n:=pF y (au o w).h ((au o w).z-1) d (by omega)
 have l:aJ (fa y (au o w).h ((au o w).z-1)) ⟨#[36,61]⟩=true:=by
  unfold ip at a
  split at a
  ·cases a
  ·split at a
   ·cases a
   ·cases e:aJ (fa y (au o w).h ((au o w).z-1)) ⟨#[36,61]⟩
    ·rw[m,e,QW (by decide)]at a;cases a
    ·rfl
 obtain⟨i,p,j⟩:=RC.1 l
 have c:∃x∈fa y (au o w).h ((au o w).z-1),kB x=false:=by
  refine⟨i,p,?_⟩;unfold kB;have e:i.toList=(⟨#[36,61]⟩:ByteArray).toList:=by simpa using j
  rw[e];decide +kernel
 obtain⟨f,b,g⟩:=Qm kB _ c;rw[<-xj P]at f b g;rw[n]at f;unfold zP;refine⟨by omega,?_,fun q t u=>?_,by omega⟩
 ·rw[se y _ _ _ (by omega) (by omega)]at b
  unfold kB at b;simpa using b
 ·have:=g (q-(au o w).h) (by omega)
  rw[se y _ _ _ (by omega) (by omega),show(au o w).h+(q-(au o w).h)=q by omega]at this;unfold kB at this;simpa using this
def Qf(T:List Tk)(S:List Sm)(a:Nat):jS:=fU T S a (zP T S a) ((au S a).z-1)
def JJ(T:List Tk)(S:List Sm)(a:Nat):ik:=mR T S a (Qf T S a) (T.getD ((au S a).z-1) jf)
theorem A6.keptS(h:A6 n p w o)(c:ab z7 n k)(m:∀g,p=some ⟨g,0,none⟩->g∉z7):A6 k p w o:=by
 refine⟨h.1,fun j t r=>?_⟩;obtain⟨g,e,b,d,f,i,l⟩:=h.2 j t r;have q:∀a,k.cell? ⟨g,a,none⟩=n.cell? ⟨g,a,none⟩:=fun a=>Q6 (c.block g b (m g e))
 exact⟨g,e,QX b c.size,by rw[q];exact d,by rw[q];exact f,by rw[q];exact i,by rw[q];exact l⟩
theorem fz.off{m:Option Addr}(h:fz n w y p u o zb t)(z:n.heap[x]?=some (.cells #[.slice m y0 y5,I,M,N,z5] 85 (0,0)))(l:ab [x] n k):fz k w y p u o zb t:=by
 have A:n.cell? ⟨x,0,none⟩=some (.slice m y0 y5):=by rw[aa z];rfl
 refine⟨l.get h.d (fun v=>?_),?_,?_⟩
 ·simp at v
  subst v;have:=h.d.symm.trans z;simp at this
 ·cases r:y with
  | nil=>rw[r]at h;exact⟨h.t.1,fun j c i=>by simp at i⟩
  | cons c L =>
   rw[r]at h;refine h.t.keptS l (fun g e b=>?_);simp at b;subst b;obtain⟨g,f,-,a,-⟩:=h.t.2 0 c rfl;rw[f]at e;cases e;rw[UT]at a;rw[A]at a;cases a
 ·cases q:o with
  | nil=>rw[q]at h;exact⟨h.s.1,fun j c i=>by simp at i⟩
  | cons c L =>
   rw[q]at h;refine h.s.keptS l (fun g e b=>?_);simp at b;subst b;obtain⟨g,f,-,a,-⟩:=h.s.2 0 c rfl;rw[f]at e;cases e;rw[UT]at a;rw[A]at a;cases a
theorem Eo(g:Option Addr)(y:Nat)(f:Option Addr)(x:Nat)(E:Option Addr)(n c:Nat)(D G H:Value)(w:World)(F:w.heap[v]?=some (.cells #[.slice E n c,D,.pointer (some ⟨l,0,none⟩),G,H] 85 (0,0)))(N:fz w l b g y (aj b) f x)(t:b.length<=10000)(A:dC b)(d:∀q,q<b.length->bh b (aj b) q=0) :
  Calls prog 57 #[.pointer (some ⟨v,0,none⟩)] w fun e V=>Kn b (aj b) v l (.slice E n c) D (Qf b (aj b)) (JJ b (aj b)) w e V:=by
 have p:=fw b;have W:(aj b).length<=b.length:=oG b b.length;have s:∀m,ab [v] w m->fz m l b g y (aj b) f x:=fun m k=>N.off F k
 have j:∀a,tY (aj b) a=true->bS (au (aj b) a).k=false:=fun a h=>fX h (by decide)
 refine En v l b g y (aj b) f x _ D G H _ _ w F s (by omega) (J9 b t d _ (QR _)).ok.a ?_ ?_ ?_
 ·intro a o u m C
  have P:=oQ p d a o (j a u);obtain⟨I,J,K,L⟩:=Px P u;have:=P.pos;have:=P.zt;exact DR l a (zP b (aj b) a) ((au (aj b) a).z-1) b g y _ f x m (s m C) (J9 b t d a (by omega)) o (qz P) A I J K (by omega) L (by omega) P.dot
 ·intro a o u B m C R
  have P:=oQ p d a o (j a u);have:=P.pos;have:=P.zt;exact AL l a ((au (aj b) a).z-1) b g y _ f x (Qf b (aj b) a) B m (s m C) (J9 b t d a (by omega)) (PZ p d a (by omega)) (Qx p d a (by omega)) o (qz P) ((J9 b t d _ (QR _)).ok.a a o) (by omega) (by omega) R (Ib (by omega) A t _ _ (by omega))
 ·intro a o u
  have P:=oQ p d a o (j a u);have:=P.zt;obtain⟨T,-,U⟩:=vV (T:=b) (S:=aj b) (a:=a) (by omega) A t (zP b (aj b) a) ((au (aj b) a).z-1) (by omega);refine⟨U,fun i O=>?_⟩
  show(bO (fU b (aj b) a (zP b (aj b) a) ((au (aj b) a).z-1)).st i).ref<=(a:Int)
  rcases(T i O).Vm with h | ⟨h,-⟩ | ⟨r,Q,M,-⟩
  ·rw[h];omega
  ·rw[h];omega
  ·rw[M];have:=Q.1;omega
theorem E0(i:∀k d c,d[k]?=some false->(z3 k d c).1.length+2000*aQ (z3 k d c).2<=c.length+2000*aQ d)(f:Fs)(n:Nat):∀L,L.length<=n->∀d c,(cv z3 f L d c).1.length+2000*aQ (cv z3 f L d c).2<=c.length+L.length+2000*aQ d:=by
 induction n with
 | zero =>
  intro L l d c
  cases L with
  | nil=>rw[cv];simp
  | cons _ _=>simp at l
 | succ n o =>
  intro L l d c
  cases L with
  | nil=>rw[cv];simp
  | cons t r =>
   have g:r.length<=n:=by simpa using l
   rw[cv.eq_def];simp only[List.length_cons]
   split
   ·split
    ·simp only;omega
    ·simp only[List.length_append,List.length_cons,List.length_nil];omega
   ·split
    ·have:=o r g d (c++[t])
     rw[Q0,Rp,Rs]at this;omega
    ·split
     ·simp only[List.length_append,List.length_cons,List.length_nil];omega
     ·cases r with
      | nil=>simp only;omega
      | cons a r =>
       cases r with
       | nil=>simp only[List.length_append,List.length_cons,List.length_nil];omega
       | cons b r =>
        have h:r.length<=n:=by simp at g;omega
        simp only[List.length_cons]
        split
        ·simp only[List.length_append,List.length_cons,List.length_nil];omega
        ·split
         ·simp only[List.length_append,List.length_cons,List.length_nil];omega
         ·split
          ·have:=o r h d c
           omega
          ·next j =>
           have m:d[(bF f a.s).toNat]?=some false:=by
            rw[QQ]at j
            cases e:d[(bF f a.s).toNat]? with
            | none=>rw[e]at j;exact absurd rfl j
            | some x=>rw[e]at j;cases x;rfl;exact absurd rfl j
           have p:=i (bF f a.s).toNat d c m
           split
           ·omega
           ·have:=o r h (z3 (bF f a.s).toNat d c).2 (z3 (bF f a.s).toNat d c).1
            omega
theorem E2(c:∀k,(ak H k).size<=1024)(n:Nat):∀k b a,b[k]?=some false->(dQ H n k b a).1.length+2000*aQ (dQ H n k b a).2<=a.length+2000*aQ b:=by
 induction n with
 | zero=>intro k b a _;rw[dQ];simp
 | succ n e =>
  intro k b a d;rw[dQ];have f:=E0 (dQ H n) e H _ (qV H k) (QR _) (b.set k true) a;have g:=Df H k;have h:=lC b k d;have i:=c k;omega
theorem Ii(c:H.length<=4)(a:∀l,(ak H l).size<=1024)(d:l<H.length):(cC H l).1.length<=10000:=by
 have h:=E2 H a H.length l (List.replicate H.length false) [] (by rw[Sf,QW d]);rw[mP]at h;have b:(pt H l).length<=10000:=by unfold pt;simp at h;omega
 unfold cC
 split
 ·rw[SF];omega
 ·exact b
structure OH(w:World)(v:Nat)(fs:Fs)(h:Hd)(T:List Tk)(lo hi b:Nat)(aT:Option Addr)(cT:Nat)(aS:Option Addr)(cS:Nat)(PS:List (jS×Hd))(h1:Hd)(RS:List ik)(h2:Hd):Prop where
 rv:fB w v fs h true (.pointer (some ⟨b,0,none⟩)) (.slice h1.ao PS.length h1.cap) (.slice h2.ao RS.length h2.cap)
 db:fz w b T aT cT (aj T) aS cS
 ps:PS.map (·.1)=(List.range (aj T).length).map (xM (aj T) (Qf T (aj T)))
 fin:pv (aj T) PS ((List.range (aj T).length).map (oO T (aj T) (JJ T (aj T)))) RS (aj T).length
 s1:aw w h1 (fP PS)
 s2:aw w h2 (fM RS)
 sq:∀x∈PS,cm w x.2.ao 6 kV x.1.st
 nb:lo<=b/\b<hi
 nT:∀g,aT=some ⟨g,0,none⟩->lo<=g/\g<hi
 nS:∀g,aS=some ⟨g,0,none⟩->lo<=g/\g<hi
 n1:∀g,h1.blk=some g->lo<=g/\g<hi
 n2:∀g,h2.blk=some g->lo<=g/\g<hi
 nq:∀x∈PS,∀g,x.2.ao=some ⟨g,0,none⟩->lo<=g/\g<hi
def xF(w:World)(v:Nat)(fs:Fs)(h:Hd)(T:List Tk)(lo hi:Nat):Prop:=∃b aT cT aS cS PS h1 RS h2,OH w v fs h T lo hi b aT cT aS cS PS h1 RS h2
theorem xF.kept(a:xF n w d D y x u)(c:ab z7 n k)(B:w∉z7)(z:∀q,D.blk=some q->q∉z7)(A:∀q,x<=q->q<u->q∉z7):xF k w d D y x u:=by
 obtain⟨b,m,p,l,o,i,r,j,v,a⟩:=a;have q:∀g,x<=g/\g<u->g∉z7:=fun g f=>A g f.1 f.2
 exact⟨b,m,p,l,o,i,r,j,v,{ a with
  rv:=a.rv.keptS c B z
  db:=⟨c.get a.db.d (q b a.nb),a.db.t.keptS c (fun g e=>q g (a.nT g e)),a.db.s.keptS c (fun g e=>q g (a.nS g e))⟩
  s1:=a.s1.Vg (fun g e=>c.block g (a.s1.lt e) (q g (a.n1 g e)))
  s2:=a.s2.Vg (fun g e=>c.block g (a.s2.lt e) (q g (a.n2 g e)))
  sq:=fun f h=>(a.sq f h).keptS c (fun g e=>q g (a.nq f h g e)) }⟩
theorem xF.rvAt(a:xF n w d D y x u):∃c e f,fB n w d D true c e f:=by
 obtain⟨b,j,l,i,k,g,m,h,o,a⟩:=a;exact⟨_,_,_,a.rv⟩
theorem Mf{X:World}{f:List (jS×Hd)}{m:List ik}{j:Hd}(a:vD n k w x I M f c m j)(h:fz k x y p y0 (aj y) zb y5)(F:fB X w d D true (.pointer (some ⟨x,0,none⟩)) (.slice c.ao f.length c.cap) (.slice j.ao m.length j.cap))(K:ab [w,u] k X)(L:w<t)(H:u<t)(r:t<=n.heap.size)(v:t<=x)(o:∀g,p=some ⟨g,0,none⟩->t<=g/\g<k.heap.size)(nS:∀g,zb=some ⟨g,0,none⟩->t<=g/\g<k.heap.size)(E:f.map (·.1)=(List.range (aj y).length).map (xM (aj y) (Qf y (aj y))))(i:pv (aj y) f ((List.range (aj y).length).map (oO y (aj y) (JJ y (aj y)))) m (aj y).length):xF X w d D y t X.heap.size:=by
 have z:=K.size;have q:∀g,t<=g->g∉[w,u]:=fun g J G=>by simp at G;omega
 have A:∀g,c.blk=some g->t<=g/\g<X.heap.size:=fun g e=>⟨Q3 r (a.f1 g e),QX (a.o1.lt e) z⟩
 have B:∀g,j.blk=some g->t<=g/\g<X.heap.size:=fun g e=>⟨Q3 r (a.f2 g e),QX (a.o2.lt e) z⟩
 have C:∀b∈f,∀g,b.2.ao=some ⟨g,0,none⟩->t<=g/\g<X.heap.size:=fun b l g e=>⟨Q3 r ((a.q b l).2 g e).1,QX (a.ql b l g e) z⟩
 exact⟨x,p,y0,zb,y5,f,c,m,j,{
  rv:=F
  db:=⟨K.get h.d (q x v),h.t.keptS K (fun g e=>q g (o g e).1),h.s.keptS K (fun g e=>q g (nS g e).1)⟩
  ps:=E
  fin:=i
  s1:=a.o1.Vg (fun g e=>K.block g (a.o1.lt e) (q g (A g e).1))
  s2:=a.o2.Vg (fun g e=>K.block g (a.o2.lt e) (q g (B g e).1))
  sq:=fun b l=>(a.q b l).1.keptS K (fun g e=>q g (C b l g e).1)
  nb:=⟨v,QX (ae h.d) z⟩
  nT:=fun g e=>⟨(o g e).1,QX (o g e).2 z⟩
  nS:=fun g e=>⟨(nS g e).1,QX (nS g e).2 z⟩
  n1:=A
  n2:=B
  nq:=C }⟩
def Qu(fs:Fs)(k v:Nat)(h:Hd)(f:pA)(c:Int)(w:World)(e:Ending)(w':World):Prop :=
 e=.returned (.tuple #[gU f,.int .i64 c])/\((c=0->∃lo,w.heap.size<=lo/\xF w' v fs h (cC fs k).1 lo w'.heap.size)/\(c≠0->∃p2 p3 p4,fB w' v fs h false p2 p3 p4))/\ab [v] w w'
theorem fB.keptV{on':Bool}(a:fB n w d D z2 I M N)(f:ab [w] n k)(c:k.heap[w]?=some (.cells #[.slice D.ao d.length D.cap,.bool on',z5,y6,y7] 85 (0,0))):fB k w d D on' z5 y6 y7 :=
 ⟨c,a.own.Vg (fun q b=>f.block q (a.own.lt b) (by simp;intro e;rw[e]at b;exact a.far b)),a.far,a.le⟩
theorem sD(h:∀j,j<d.length->(ak d j).size<=1024)(k:Nat):(ak d k).size<=1024:=by
 by_cases a:k<d.length
 ·exact h k a
 ·unfold ak;rw[QQ,Rx (by omega)];show(0:Nat)<=1024;omega
theorem fB.Vk(a:fB n w d D z2 I M N)(c:w≠x)(b:∀q,D.blk=some q->q≠x)(i:Nat)(u:Value):fB (n.setCell ⟨x,i,none⟩ u) w d D z2 I M N :=
 ⟨((ab.refl [x] n).setCell (Q1 (by simp)) _).get a.d (by simp;exact c),a.own.Vk b i u,a.far,a.le⟩
theorem vo{c u0 u1 u2 u3:Value}(e:k.heap[w]?=some (.cells #[z5,y6,y7,c] 87 (0,0)))(g:fB k x d D z2 I M N)(j:x<w)(h:∀q,D.blk=some q->q<w)(f:ab [x] n k)(b:n.heap.size<=w) :
  ((((k.setCell ⟨w,0,none⟩ u0).setCell ⟨w,1,none⟩ u1).setCell ⟨w,2,none⟩ u2).setCell ⟨w,3,none⟩ u3).heap[w]?=some (.cells #[u0,u1,u2,u3] 87 (0,0))/\fB ((((k.setCell ⟨w,0,none⟩ u0).setCell ⟨w,1,none⟩ u1).setCell ⟨w,2,none⟩ u2).setCell ⟨w,3,none⟩ u3) x d D z2 I M N/\ab [x] n ((((k.setCell ⟨w,0,none⟩ u0).setCell ⟨w,1,none⟩ u1).setCell ⟨w,2,none⟩ u2).setCell ⟨w,3,none⟩ u3):=by
 refine⟨ah (ah (ah (ah e 0 u0) 1 u1) 2 u2) 3 u3,?_,(((f.setCell (QV b) _).setCell (QV b) _).setCell (QV b) _).setCell (QV b) _⟩;have a:∀q,D.blk=some q->q≠w:=fun q i=>by have:=h q i;omega
 exact(((g.Vk (by omega) a _ _).Vk (by omega) a _ _).Vk (by omega) a _ _).Vk (by omega) a _ _
theorem mz(h:n.heap[w]?=some (.cells #[I,M,N,z5] 87 (0,0))) :
  (n.cell? ⟨w,0,none⟩=some I/\n.cell? ⟨w,1,none⟩=some M/\n.cell? ⟨w,2,none⟩=some N/\n.cell? ⟨w,3,none⟩=some z5)/\(n.frozen? ⟨w,0,none⟩=false/\n.frozen? ⟨w,1,none⟩=false/\n.frozen? ⟨w,2,none⟩=false/\n.frozen? ⟨w,3,none⟩=false)/\w<n.heap.size:=by
 refine⟨⟨?_,?_,?_,?_⟩,⟨am h 0,am h 1,am h 2,am h 3⟩,ae h⟩
 all_goals (rw[aa h];rfl)
theorem v8(c:H.length<=4)(d:∀j,j<H.length->(ak H j).size<=1024)(k:l<H.length)(f:((yp (cC H l).1 (aj (cC H l).1)).rule==0)=true)(b:((cC H l).2.rule==0)=true):fE H l=cY/\∀q,q<(cC H l).1.length->bh (cC H l).1 (aj (cC H l).1) q=0:=by
 obtain⟨e,g⟩:=v7 H l c d k
 have m:(fE H l).1=0:=by
  unfold fE;rw[QT (by rw[f];simp)];exact TR b
 refine⟨?_,(g (by rw[e,m];rfl)).1.u⟩
 have i:(cC H l).2=jf:=by
  unfold cC at b ⊢
  split
  ·next a =>
   rw[QW a]at b;unfold eu at a
   cases h:(pt H l).getLast? with
   | none=>rw[h]at a;cases a
   | some t =>
    rw[h]at a b;simp only[Option.getD_some]at b;simp only at a;rw[b]at a
    cases a
  ·rfl
 unfold fE;rw[QT (by rw[f];simp),i];rfl
set_option maxRecDepth 100000
theorem xZ(h:Hd)(t:Bool)(u v x:Value)(n:ByteArray)(w:World)(f:fB w z0 H h t u v x)(I:bF H n<0) :
  Calls prog 37 #[.pointer (some ⟨z0,0,none⟩),.string n] w fun e y=>e=.returned (.tuple #[gU cY,.int .i64 5])/\ab [] w y:=by
 obtain⟨W,j⟩:∃W,Hid (w.alloc (.cells #[.int .i64 0,.string ⟨#[]⟩,.int .i64 0,.int .i64 0] 87)=W):=⟨_,rfl⟩
 have b:Hid (ab [] w W):=by show ab [] w W;rw[<-j.out];exact(ab.refl [] _).alloc _
 have k:Hid (W.heap[w.heap.size]?=some (.cells #[.int .i64 0,.string ⟨#[]⟩,.int .i64 0,.int .i64 0] 87 (0,0))):=by show _=_;rw[<-j.out];exact QS _ _
 have a:Hid _:=f.Vb b.out;have i:Hid _:=(mu H h.ao h.cap n W (by have:=f.le;omega) a.out.own.srcFi);have J:W.cell? ⟨z0,0,none⟩=some (.slice h.ao H.length h.cap):=by rw[aa a.out.d];rfl
 have K:=ae a.out.d;obtain⟨⟨D,E,F,G⟩,⟨z,A,B,C⟩,M⟩:=mz k.out;have c:Hid (z0<w.heap.size/\∀q,h.blk=some q->q<w.heap.size):=⟨ae f.d,fun q s=>f.own.lt s⟩;clear f;go_enter func37,ntmps37
 go_upto_region 1 with fail
 rw[j.out];go_wp2_with (go_at_call 35;refine QU i.out ?_;rintro e L ⟨rfl,g⟩;rw[g];clear g);obtain⟨l,-,-⟩:=vo (u0:=.int .i64 0) (u1:=.string ⟨#[]⟩) (u2:=.int .i64 0) (u3:=.int .i64 0) k.out a.out c.out.1 c.out.2 (oB b.out) (QR _);obtain⟨⟨m,o,p,r⟩,-,-⟩:=mz l;exact QY (v:=.tuple #[.agg #[.int .i64 0,.string ⟨#[]⟩,.int .i64 0,.int .i64 0],.int .i64 5]) (by simp[results,results37,go_sem,m,o,p,r]) rfl ⟨rfl,(((b.out.setCell (QV (QR _)) _).setCell (QV (QR _)) _).setCell (QV (QR _)) _).setCell (QV (QR _)) _⟩
theorem AQ(b:Fs)(h:Hd)(on:Bool)(p2 p3 p4:Value)(n:ByteArray)(w:World)(hR:fB w v b h on p2 p3 p4)(hf:bF b n=(l:Int))(hk:l<b.length)(Y:∀j,j<b.length->(ak b j).size<=1024) :
  Calls prog 37 #[.pointer (some ⟨v,0,none⟩),.string n] w fun e w'=>Qu b l v h (fE b l) (if((fE b l).1==0)=true then 0 else 6) w e w':=by
 unfold Qu;have az:=hR.le;obtain⟨cf,k⟩:=h;obtain⟨gf,ax,ch,-⟩:=hR.own.srcFi.2 l hk;replace ax:cf=some ⟨gf,0,none⟩:=ax;subst ax;obtain⟨W,HW⟩:∃W,Hid (w.alloc (.cells #[.int .i64 0,.string ⟨#[]⟩,.int .i64 0,.int .i64 0] 87)=W):=⟨_,rfl⟩
 have bc:Hid (ab [] w W):=by show ab [] w W;rw[<-HW.out];exact(ab.refl [] _).alloc _
 have BF:Hid (W.heap[w.heap.size]?=some (.cells #[.int .i64 0,.string ⟨#[]⟩,.int .i64 0,.int .i64 0] 87 (0,0))):=by show _=_;rw[<-HW.out];exact QS _ _
 have z:Hid _:=hR.Vb bc.out;have a7:Hid _:=(mu b (some ⟨gf,0,none⟩) k n W (by omega) z.out.own.srcFi);rw[hf]at a7;have v0:W.cell? ⟨v,0,none⟩=some (.slice (some ⟨gf,0,none⟩) b.length k):=by rw[aa z.out.d];rfl
 have v1:W.cell? ⟨v,1,none⟩=some (.bool on):=by rw[aa z.out.d];rfl
 have e1:=am z.out.d 1;have vz:=ae z.out.d;have c:Hid (v<w.heap.size/\∀q,(⟨some ⟨gf,0,none⟩,k⟩:Hd).blk=some q->q<w.heap.size):=⟨ae hR.d,fun q hq=>hR.own.lt hq⟩;obtain⟨D,S⟩:∃D,Hid (W.setCell ⟨v,1,none⟩ (.bool false)=D):=⟨_,rfl⟩
 have H:Hid (fB D v b ⟨some ⟨gf,0,none⟩,k⟩ false p2 p3 p4):=by show fB _ _ _ _ _ _ _ _;rw[<-S.out];exact z.out.off
 have al:Hid (ab [v] w D):=by show ab _ _ _;rw[<-S.out];exact(oB bc.out).setCell (Q1 (by simp)) _
 have a0:Hid (D.heap[w.heap.size]?=some (.cells #[.int .i64 0,.string ⟨#[]⟩,.int .i64 0,.int .i64 0] 87 (0,0))):=by
  show _=_
  rw[<-S.out];exact((ab.refl [v] _).setCell (Q1 (by simp)) _).get BF.out (by have:=c.out.1;simp;omega)
 have Q:Hid _:=Ij b gf k l D az (sD Y) hk H.out.own.srcFi (H.out.own.lt rfl);have cj:D.cell? ⟨v,0,none⟩=some (.slice (some ⟨gf,0,none⟩) b.length k):=by rw[aa H.out.d];rfl
 have ck:=ae H.out.d;have R:Hid _:=BG b l (sD Y);have A:Hid _:=Ii b l az (sD Y) hk;have F:Hid _:=v8 b l az Y hk;have y:Hid (fE b l=if((yp (cC b l).1 (aj (cC b l).1)).rule==0)=false then Lj (yp (cC b l).1 (aj (cC b l).1)) else Lj (cC b l).2):=rfl;obtain⟨f,Hf⟩:∃f,Hid (fE b l=f):=⟨_,rfl⟩
 rw[Hf.out]at y F ⊢;obtain⟨cc,V⟩:∃cc,Hid ((if(f.1==0)=true then(0:Int) else 6)=cc):=⟨_,rfl⟩
 rw[V.out];obtain⟨⟨T,t⟩,ca⟩:∃Tt,Hid (cC b l=Tt):=⟨_,rfl⟩
 rw[ca.out]at Q R A F y ⊢;simp only at Q R A F y ⊢;obtain⟨u,Hu⟩:∃u,Hid (yp T (aj T)=u):=⟨_,rfl⟩
 rw[Hu.out]at F y;have cl:¬(l:Int)<0:=by omega
 have bk:Hid (∀i,(tS T i).size<=1073741824):=fun i=>by
  unfold tS;rw[QQ]
  cases e:T[i]? with
  | none=>show(0:Nat)<=_;omega
  | some t=>have:=(R.out t (R4 e)).1;show t.s.size<=_;omega
 clear hR ch hf;go_enter func37,ntmps37
 go_upto_region 1 with fail
 rw[HW.out]
 go_upto_region 5 with (go_at_call 35;refine QU a7.out ?_;rintro e w9 ⟨rfl,bo⟩;rw[bo];clear bo)
 rw[S.out];clear v0 v1 e1 vz;obtain⟨ts,tr,tf,tl,tc⟩:=t;obtain⟨us,ur,uf,ul,uc⟩:=u;simp only at Q
 go_upto_region 6 with (go_at_call 54;refine QU Q.out ?_;rintro e w7 ⟨aT,cT,rfl,sT,k7,n7⟩)
 obtain⟨E,L⟩:∃E,Hid (w7.alloc (.cells #[.int .i64 tr,.string tf,.int .i64 tl,.int .i64 tc] 87)=E):=⟨_,rfl⟩
 have ba:Hid (ab [] D E):=by show ab _ _ _;rw[<-L.out];exact k7.alloc _
 have bv:Hid (E.heap[w7.heap.size]?=some (.cells #[.int .i64 tr,.string tf,.int .i64 tl,.int .i64 tc] 87 (0,0))):=by show _=_;rw[<-L.out];exact QS _ _
 have U:Hid (w7.heap.size<=E.heap.size/\D.heap.size<=E.heap.size):=⟨by rw[<-L.out];simp,ba.out.size⟩;have bd:Hid _:=n7;have b6:Hid _:=(LJ T aT cT E (lj.Vb sT (by rw[<-L.out];exact(ab.refl [] _).alloc _)) (by have:=A.out;omega) bk.out);rw[L.out];clear sT k7 cj ck n7
 go_upto_region 7 with (go_at_call 55;refine QU b6.out ?_;rintro e w9 ⟨rfl,aS,cS,d9,k9,n9⟩)
 have ai:Hid _:=(we E.heap.size T aT cT (aj T) aS cS w9 d9 (by have:=A.out;omega) (Ot T (by have:=A.out;omega)) bk.out);rw[Hu.out]at ai;simp only at ai;have bf:Hid (∀g,aT=some ⟨g,0,none⟩->D.heap.size<=g/\g<w9.heap.size):=fun g N=>⟨(bd.out g N).1,QX (bd.out g N).2 (Q3 U.out.1 k9.size)⟩
 have be:Hid (∀g,aS=some ⟨g,0,none⟩->D.heap.size<=g/\g<w9.heap.size):=fun g N=>⟨Q3 U.out.2 (n9 g N).1,(n9 g N).2⟩
 have b3:Hid _:=ba.out.trans k9;have bw:Hid _:=(k9.get bv.out (by simp));have cb:Hid _:=k9.size;have bz:Hid _:=d9;clear d9 k9 n9
 go_upto_region 8 with (go_at_call 56;refine QU ai.out ?_;rintro e bs ⟨rfl,br⟩)
 obtain⟨o,I⟩:∃o,Hid (bs.alloc (.cells #[.int .i64 ur,.string uf,.int .i64 ul,.int .i64 uc] 87)=o):=⟨_,rfl⟩
 have a2:Hid (o.heap[bs.heap.size]?=some (.cells #[.int .i64 ur,.string uf,.int .i64 ul,.int .i64 uc] 87 (0,0))):=by show _=_;rw[<-I.out];exact QS _ _
 have x:Hid (ab [] w9 o):=by show ab _ _ _;rw[<-I.out];exact br.alloc _
 have G:Hid _:=b3.out.trans x.out;have a5:Hid _:=fz.Vb bz.out x.out;have bx:Hid _:=(x.out.get bw.out (by simp));have a:Hid _:=H.out.Vb G.out;have P:Hid _:=(G.out.get a0.out (by simp));have an:Hid _:=al.out.trans (oB G.out);rw[I.out];clear br;obtain⟨⟨u0,u1,u2,u3⟩,-,uz⟩:=mz a2.out;obtain⟨⟨t0,t1,t2,t3⟩,-,tz⟩:=mz bx.out;obtain⟨⟨g0,g1,g2,g3⟩,⟨f0,f1,f2,f3⟩,wz⟩:=mz P.out
 cases hu:(ur==0)
 ·have HX:Hid (f=(ur,⟨uf,ul,uc⟩)):=by show _=_;rw[y.out];exact QW hu
  have HC:Hid (cc=6):=by show _=_;rw[<-V.out,HX.out];exact QT (fun q=>by have q':(ur==0)=true:=q;rw[hu]at q';cases q')
  go_wp2;obtain⟨B1,R1,K1⟩:=vo (u0:=.int .i64 ur) (u1:=.string uf) (u2:=.int .i64 ul) (u3:=.int .i64 uc) P.out a.out c.out.1 c.out.2 an.out (QR _);obtain⟨⟨c0,c1,c2,c3⟩,-,-⟩:=mz B1;exact QY (v:=.tuple #[.agg #[.int .i64 ur,.string uf,.int .i64 ul,.int .i64 uc],.int .i64 6]) (by simp[results,results37,go_sem,c0,c1,c2,c3]) rfl (by rw[HC.out,HX.out];exact⟨rfl,⟨(fun q=>by cases q),fun _=>⟨_,_,_,R1⟩⟩,K1⟩)
 ·cases ht:(tr==0)
  ·have HX:Hid (f=(tr,⟨tf,tl,tc⟩)):=by show _=_;rw[y.out];exact QT (fun q=>by have q':(ur==0)=false:=q;rw[hu]at q';cases q')
   have HC:Hid (cc=6):=by show _=_;rw[<-V.out,HX.out];exact QT (fun q=>by have q':(tr==0)=true:=q;rw[ht]at q';cases q')
   go_wp2;obtain⟨B1,R1,K1⟩:=vo (u0:=.int .i64 tr) (u1:=.string tf) (u2:=.int .i64 tl) (u3:=.int .i64 tc) P.out a.out c.out.1 c.out.2 an.out (QR _);obtain⟨⟨c0,c1,c2,c3⟩,-,-⟩:=mz B1;exact QY (v:=.tuple #[.agg #[.int .i64 tr,.string tf,.int .i64 tl,.int .i64 tc],.int .i64 6]) (by simp[results,results37,go_sem,c0,c1,c2,c3]) rfl (by rw[HC.out,HX.out];exact⟨rfl,⟨(fun q=>by cases q),fun _=>⟨_,_,_,R1⟩⟩,K1⟩)
  ·obtain⟨bl,af⟩:=F.out hu ht
   have a1:Hid _:=af;have HX:Hid _:=bl;have HC:Hid (cc=0):=by show _=_;rw[<-V.out,HX.out];rfl
   clear bl af;have x2:o.cell? ⟨v,2,none⟩=some p2:=by rw[aa a.out.d];rfl
   have y2:=am a.out.d 2;have vz:=ae a.out.d;have X:=ah a.out.d 2 (.pointer (some ⟨E.heap.size,0,none⟩));obtain⟨B,J⟩:∃B,Hid (o.setCell ⟨v,2,none⟩ (.pointer (some ⟨E.heap.size,0,none⟩))=B):=⟨_,rfl⟩
   rw[J.out]at X;have m:Hid (ab [v] o B):=by show ab _ _ _;rw[<-J.out];exact(ab.refl [v] _).setCell (Q1 (by simp)) _
   have ac:Hid _:=fz.off a5.out a.out.d m.out;have a3:Hid _:=(m.out.get P.out (by have:=c.out.1;simp;omega));have ad:Hid _:=fB.keptV (on':=false) a.out m.out X;have b0:Hid _:=Eo v E.heap.size T aT cT aS cS _ _ _ _ _ _ B X ac.out A.out R.out a1.out;clear X
   go_upto_region 13 with fail
   rw[J.out];clear x2 y2 vz u0 u1 u2 u3 uz t0 t1 t2 t3 tz g0 g1 g2 g3 f0 f1 f2 f3 wz
   go_upto_region 14 with (go_at_call 57;refine QU b0.out ?_;rintro e O ⟨PS,j1,j2,RS,rfl,bp,ag,jw⟩)
   have a4:Hid _:=(jw.kept.get a3.out (by have:=c.out.1;simp;omega));have C:=jw.d;have M:=jw.kept;have bg:Hid _:=fB.keptV (on':=false) ad.out M C;have b4:Hid _:=(an.out.trans m.out).trans M;have b2:Hid _:=jw;have b1:Hid _:=bp;have bT:Hid _:=ag;have a6:Hid _:=fz.off ac.out ad.out.d M;have ao:Hid (w9.heap.size<=B.heap.size/\B.heap.size<=O.heap.size/\E.heap.size<=w9.heap.size):=⟨Q3 x.out.size m.out.size,M.size,cb.out⟩;have x1:O.cell? ⟨v,1,none⟩=some (.bool false):=by rw[aa C];rfl
   have y1:=am C 1;have vz:=ae C;have ar:=ah C 1 (.bool true);obtain⟨ap,K⟩:∃ap,Hid (O.setCell ⟨v,1,none⟩ (.bool true)=ap):=⟨_,rfl⟩
   rw[K.out]at ar;have r:Hid (ab [v] O ap):=by show ab _ _ _;rw[<-K.out];exact(ab.refl [v] _).setCell (Q1 (by simp)) _
   have bj:Hid _:=fB.keptV (on':=true) bg.out r.out ar;have Z:Hid _:=(r.out.get a4.out (by have:=c.out.1;simp;omega));have b5:Hid _:=b4.out.trans r.out;clear jw bp ag C M ar
   go_upto_region 15 with fail
   rw[K.out];clear x1 y1 vz;obtain⟨⟨g0,g1,g2,g3⟩,⟨f0,f1,f2,f3⟩,wz⟩:=mz Z.out;go_wp2;obtain⟨B1,R1,K1⟩:=vo (u0:=.int .i64 0) (u1:=.string ⟨#[]⟩) (u2:=.int .i64 0) (u3:=.int .i64 0) Z.out bj.out c.out.1 c.out.2 b5.out (QR _);have KX:ab [v,w.heap.size] O _:=((((r.out.mono (S':=[v,w.heap.size]) (fun q hq _=>by rw[Q9.1 hq];exact Rn)).setCell (p:=⟨w.heap.size,0,none⟩) (Q1 (by simp)) (.int .i64 0)).setCell (p:=⟨w.heap.size,1,none⟩) (Q1 (by simp)) (.string ⟨#[]⟩)).setCell (p:=⟨w.heap.size,2,none⟩) (Q1 (by simp)) (.int .i64 0)).setCell (p:=⟨w.heap.size,3,none⟩) (Q1 (by simp)) (.int .i64 0);obtain⟨⟨c0,c1,c2,c3⟩,-,-⟩:=mz B1;exact QY (v:=.tuple #[.agg #[.int .i64 0,.string ⟨#[]⟩,.int .i64 0,.int .i64 0],.int .i64 0]) (by simp[results,results37,go_sem,c0,c1,c2,c3]) rfl (by rw[HC.out,HX.out];exact⟨rfl,⟨fun _=>⟨D.heap.size,al.out.size,Mf b2.out a6.out R1 KX (QX c.out.1 al.out.size) (ae a0.out) (by have:=U.out;have:=ao.out;omega) U.out.2 (fun g N=>⟨(bf.out g N).1,by have:=(bf.out g N).2;have:=ao.out;omega⟩) (fun g N=>⟨(be.out g N).1,by have:=(be.out g N).2;have:=ao.out;omega⟩) b1.out bT.out⟩,fun q=>absurd rfl q⟩,K1⟩)
theorem DZ(h:l<v):aE (H.take v) l=aE H l/\ak (H.take v) l=ak H l:=by
 unfold aE ak;rw[QQ,Tj,QW h,QQ];exact⟨rfl,rfl⟩
theorem mV.take(h:mV n p w d)(k:Nat)(f:k<=d.length):mV n p w (d.take k):=by
 have b:(d.take k).length=k:=by rw[RQ];omega
 refine⟨by rw[b];exact Q3 f h.1,fun j a=>?_⟩;rw[b]at a;obtain⟨c,e⟩:=DZ d k j a;rw[c,e];exact h.2 j (by omega)
theorem Le(h:mV n (some ⟨w,0,none⟩) x d)(j:Nat)(u:Value)(a:(qK d)[j]?=some u):n.cell? ⟨w,j,none⟩=some u:=by
 have k:j<d.length*2:=by
  rw[<-vn];exact(Q8.1 a).1
 obtain⟨i,e,-,b,c⟩:=h.2 (j / 2) (by omega)
 cases e
 obtain⟨f,g⟩:=v9 d (j / 2) (by omega)
 rcases UB j with e | e
 ·rw[show j / 2*2=j by omega]at b f
  rw[f]at a;rw[b,<-a]
 ·rw[show j / 2*2+1=j by omega]at c g
  rw[g]at a;rw[c,<-a]
def PB(w:World)(v:Nat)(h:Hd)(fs:Fs)(p2 p3 p4:Value)(r:Int)(w':World):Prop:=(r=0->∃h',fB w' v fs h' false p2 p3 p4/\ab (v :: h.blk.toList) w w'/\∀b,h'.blk=some b->h.blk=some b∨w.heap.size<=b)/\(r≠0->ab [] w w')
theorem PB.stay{r:Int}(a:r≠0)(b:ab [] n k):PB n w D d I M N r k:=⟨fun e=>absurd e a,fun _=>b⟩
theorem fB.newRow{b:Fs}(a:fB n w d D z2 I M N)(m:ab [] n k)(o:aw k c (cr b))(i:∀q,c.blk=some q->n.heap.size<=q)(j:b.length<=4)(l:x=b.length):fB (k.setCell ⟨w,0,none⟩ (.slice c.ao x c.cap)) w b c z2 I M N:=by
 have h:=m.get a.d (by simp);have s:=ae a.d;have f:c.blk≠some w:=fun r=>by have:=i w r;omega
 have p:ab [w] k (k.setCell ⟨w,0,none⟩ (.slice c.ao x c.cap)):=(ab.refl _ _).setCell (Q1 (by simp)) _;subst l;exact⟨by rw[ah h];rfl,o.Vg (fun q g=>p.block q (o.lt g) (by simp;intro e;exact f (by rw[<-e];exact g))),f,j⟩
theorem Ev(a:Fs)(h:Hd)(on:Bool)(p2 p3 p4:Value)(E:Option Addr)(i:Nat)(w:World)(hR:fB w z0 H h on p2 p3 p4)(hS:mV w E i a)(hn:E=none->a.length=0/\i=0)(ha:∀A,E=some A->∃g,A=⟨g,0,none⟩)(Q:∀j,j<a.length->(aE a j).size<=1073741824/\(ak a j).size<=1073741824) :
  Calls prog 31 #[.pointer (some ⟨z0,0,none⟩),.slice E a.length i] w fun e p=>e=.returned (.int .i64 (dy a))/\PB w z0 h (jt H a) p2 p3 p4 (dy a) p:=by
 have HR:Hid _:=hR
 by_cases h4:4<a.length
 ·have G:Hid (dy a=1):=by show _=_;unfold dy;rw[QW h4]
  rw[G.out];have an:(4:Int)<(a.length:Int):=by omega
  clear hR;go_enter func31,ntmps31;go_wp2;go_ret;exact⟨rfl,PB.stay (by decide) (ab.refl _ _)⟩
 ·have G:Hid (dy a=dJ (Dx a) a.length):=by show _=_;unfold dy;rw[QT h4]
  obtain⟨r,Hr⟩:∃r,Hid (dy a=r):=⟨_,rfl⟩
  rw[Hr.out]at G ⊢;have an:¬(4:Int)<(a.length:Int):=by omega
  have V:Hid _:=hS;have HN:Hid _:=hn;have X:Hid _:=ha;have K:Hid _:=Q;obtain⟨iF,aS,S,T,U⟩:=Re zZ;clear hR hS hn ha Q;go_enter func31,ntmps31;go_wp2
  go_loopg [5] a.length (fun g iv wr=>∃k:Nat,k<=a.length/\g=a.length-k/\iv=.int .i64 k/\Hid (dJ (Dx a) k=0)/\Hid (ab [] w wr))
  case atStart=>exact⟨0,by omega,rfl,rfl,rfl,ab.refl _ _⟩
  case round =>
   obtain⟨k,hk,hg,rfl,HZ,t⟩:=hrel
   by_cases x:k<a.length
   ·have a2:(k:Int)<(a.length:Int):=by omega
    have a1:(0:Int)<=(k:Int):=by omega
    have a0:=V.out.1;obtain⟨B,rfl,v,c0,c1⟩:=(mV.Vb V.out t.out).2 k x;have HC:Hid (∀p,ab [] wr p->p.cell? ⟨B,k*2,none⟩=some (.string (aE a k))/\p.cell? ⟨B,k*2+1,none⟩=some (.string (ak a k))/\B<p.heap.size):=fun p kw=>⟨by rw[Q6 (kw.block B v (by simp))];exact c0,by rw[Q6 (kw.block B v (by simp))];exact c1,QX v kw.size⟩
    have y:Hid (∀s,ab [] wr s->Calls prog 35 #[.slice (some ⟨B,0,none⟩) k i,.string (aE a k)] s fun e p=>e=.returned (.int .i64 (bF (a.take k) (aE a k)))/\p=s):=fun s kx=>by
     have hl:(a.take k).length=k:=by rw[RQ];omega
     have:=mu (a.take k) (some ⟨B,0,none⟩) i (aE a k) s (by omega) (mV.take (mV.Vb V.out (t.out.trans kx)) k hk);rw[hl]at this;exact this
    have F:Hid (∀s,Calls prog 34 #[.string (aE a k),.string (ak a k)] s fun e p=>e=.returned (.int .i64 (cJ (aE a k) (ak a k)))/\p=s):=fun s=>BE _ _ s (K.out k x).1 (by have:=(K.out k x).2;omega)
    have l:Hid (Dx a k=if(cJ (aE a k) (ak a k)==0)=false then cJ (aE a k) (ak a k) else if 0<=bF (a.take k) (aE a k) then 4 else 0):=rfl;have J:Hid ((Dx a k==0)=false->r=Dx a k):=fun q=>by rw[G.out];exact ou HZ.out q x
    have Y:Hid (Dx a k=0->dJ (Dx a) (k+1)=0):=fun q=>by rw[dJ,HZ.out];exact q
    generalize aE a k=nm at *;generalize ak a k=dt at *;obtain⟨L,ai⟩:∃L,Hid (cJ nm dt=L):=⟨_,rfl⟩
    rw[ai.out]at F l;obtain⟨fi,al⟩:∃fi,Hid (bF (a.take k) nm=fi):=⟨_,rfl⟩
    rw[al.out]at y l
    go_upto_region 6 with fail
    go_region_with (go_at_call 34;refine(F.out _).mono ?_;rintro e D ⟨rfl,aT⟩)
    all_goals
     subst aT;obtain⟨D,H9⟩:∃D,Hid (wr.drew=D):=⟨_,rfl⟩
     rw[H9.out];have f:Hid (ab [] wr D):=by show ab _ _ _;rw[<-H9.out];exact(ab.refl [] wr).drew
     clear c0 c1 v
     cases c:(L==0)
     ·rw[c,QW rfl]at l
      have o:Hid _:=(J.out (by rw[l.out];exact c));rw[l.out]at o;have az:(L != 0)=true:=by unfold bne;rw[c];rfl
      go_wp2;go_ret;exact⟨QN o.out.symm,PB.stay (by rw[o.out];exact fun q=>by rw[q]at c;cases c) (t.out.trans f.out)⟩
     ·rw[c,QT (by simp)]at l
      have az:(L != 0)=false:=by unfold bne;rw[c];rfl
      obtain⟨d0,d1,d2⟩:=HC.out D f.out
      by_cases O:0<=fi
      ·rw[QW O]at l
       have o:Hid _:=(J.out (by rw[l.out];rfl));rw[l.out]at o
       go_upto_region 9 with fail
       go_region_with (go_at_call 35;refine(y.out _ (by exact f.out.drew)).mono ?_;rintro e w8 ⟨rfl,C⟩)
       all_goals
        subst C;have z:Hid (ab [] w D.drew):=(t.out.trans f.out).drew;go_wp2;go_ret;exact⟨QN o.out.symm,PB.stay (by rw[o.out];decide) z.out⟩
      ·rw[QT O]at l
       have HM:Hid _:=Y.out l.out
       go_upto_region 9 with fail
       go_region_with (go_at_call 35;refine(y.out _ (by exact f.out.drew)).mono ?_;rintro e w8 ⟨rfl,C⟩)
       all_goals
        subst C;have z:Hid (ab [] w D.drew):=(t.out.trans f.out).drew;go_wp2
        go_roundg (a.length-(k+1))
        case measure=>omega
        case rel=>exact⟨k+1,by omega,rfl,by go_num,HM,z⟩
   ·have e:k=a.length:=by omega
    subst e;have o:Hid (r=0):=by show _=_;rw[G.out];exact HZ.out
    have a3:¬(a.length:Int)<(a.length:Int):=by omega
    have I:Hid _:=HR.out.Vb t.out;have ar:aw wr ⟨none,0⟩ (cr []):=QZ _ _ _ _;have af:Hid _:=mV.Vb V.out t.out
    have ax:Hid (∀A,E=some A->∀j u,(qK a)[j]?=some u->wr.cell? (A.add j)=some u):=fun A e j u hu=>by
     obtain⟨g,rfl⟩:=X.out A e;rw[bL];exact Le (by rw[<-e];exact af.out) j u hu
    have ap:Hid ((cr ([]:Fs)).n+a.length<=1000000000):=by show 0+a.length<=_;omega
    have ac:Hid (∀m:Nat,(cr ([]:Fs)).n+m=m):=fun m=>SJ m
    go_upto_region 12 with fail
    go_wp2_with (at_builtin;refine ed _ rfl (.const (.slice none 0 0)) (.tmp 43) 33 rfl iF (.agg #[.string ⟨#[]⟩,.string ⟨#[]⟩]) 32 ⟨none,0⟩ (cr []) underlying33 aS S T U rfl Uq rfl ar E a.length i (qK a) rfl (vn a) HN.out ax.out (Gj a) ap.out (by omega) ?_;intro h5 w5 R P;have K5:ab [] wr w5:=(P.kept.mono (by simp[Hd.blk]));have M:=K5.get I.out.d (by simp);have v0:w5.cell? ⟨z0,0,none⟩=some (.slice h.ao H.length h.cap):=(by rw[aa M];rfl);have v1:w5.cell? ⟨z0,1,none⟩=some (.bool on):=(by rw[aa M];rfl);have e0:=am M 0;have e1:=am M 1;have vz:=ae M);go_ret
    have er:(⟨(cr []).e,(cr []).size,(cr []).n+a.length,(cr []).xs++qK a⟩:dN)=cr a:=by
     show dN.mk _ _ (0+a.length) ([]++qK a)=_
     rw[SJ];rfl
    rw[er]at R
    have N:∀q,h5.blk=some q->wr.heap.size<=q:=by
     intro q W
     rcases P.blk with e | ⟨g,e,hg⟩
     ·rw[e]at W;cases W
     ·rw[e]at W;cases W;exact hg
    have Z:=(I.out.newRow K5 R N (by omega) (ac.out a.length)).off;have ag:Hid _:=yO (fs0:=H) (Hr.out.trans o.out);exact⟨QN o.out.symm,by rw[ag.out];exact⟨fun _=>⟨h5,Z,(((t.out.trans K5).mono (by simp)).setCell (Q1 (by simp)) _).setCell (Q1 (by simp)) _,fun b hb=>QV (Q3 t.out.size (N b hb))⟩,fun q=>absurd o.out q⟩⟩
end Go.Proofs.YtpddjjabfbfifaaGreat

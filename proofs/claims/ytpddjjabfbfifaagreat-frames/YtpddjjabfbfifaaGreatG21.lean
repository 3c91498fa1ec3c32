import Derived.Test.YtpddjjabfbfifaaGreatG18
import Derived.Test.YtpddjjabfbfifaaGreatG20
namespace Go.Proofs.YtpddjjabfbfifaaGreat
open Go.RowKit Tryz
set_option maxRecDepth 100000
set_option maxHeartbeats 40000000
variable{v z4:ByteArray}{w T g M y5 y6:Nat}{z1:List ByteArray}{S:List Tk}{z7:Tk}{d:List Sm}{f y:World}{z0 y0:Option Addr}{zb:List Nat}{i o D z5 y7 y8:Value}{x:Fs}{k N:Hd}{z2:Bool}(z6:List Tk)(L:Nat)(H:Fs)(I a:ByteArray)(n b:Nat)(l:List Tk)(z3:Nat->List Bool->List Tk->List Tk×List Bool)
theorem iW{l m:List UInt8}(h:(v.toList==l)=true):(v.toList==m)=(l==m):=by
 have:v.toList=l:=by simpa using h
 rw[this]
section
variable {T:List Tk} {S:List Sm} {f:Nat}
structure vD(T:List Tk)(S:List Sm)(j:Nat):Prop where
 le:(au S j).h<=(au S j).z-1
 zt:(au S j).z<=T.length
 pos:0<(au S j).z
 dot:((tS T ((au S j).z-1)).toList == [36,46])=true
 cl:ip (au S j).k (fa T (au S j).h ((au S j).z-1))=0
 w:∀q,(au S j).h<=q->q<(au S j).z-1->lV T S (au S j).k (tS T q) j (fa T (au S j).h q)=0/\bS (tS T q)=false
theorem oP(p:Dr T T.length S f)(c:∀q,q<T.length->bh T S q=0)(j:Nat)(h:j<S.length)(t:bS (au S j).k=false):vD T S j:=by
 have r:=GR p j h;obtain⟨P,o⟩:=p.s j h
 have b:(au S j).h<=(au S j).z-1->(au S j).a<(au S j).h->vD T S j:=fun m E=>by
  have B:=P.lt;have u:=c ((au S j).z-1) (by omega);rw[r ((au S j).z-1) (by omega) (by omega),QS (by omega),QS (by omega)]at u;obtain⟨x,D⟩:=wT P.e u;refine⟨m,o,by omega,x,D,fun q F v=>?_⟩;have Q:=c q (by omega);rw[r q (by omega) (by omega),QS (by omega),QS (by omega)]at Q;exact⟨Q,P.n q (by omega) v⟩
 have d:=P.k;have G:=P.lt;unfold ew at d
 by_cases g:(ii (tS T (au S j).a) ⟨#[36]⟩||decide (T.length<=(au S j).a+1))=true
 ·rw[QV g]at d
  have l:(au S j).k=tS T (au S j).a:=congrArg Prod.fst d;have A:(au S j).h=(au S j).a+1:=congrArg Prod.snd d;refine b ?_ (by omega)
  by_cases y:(au S j).z-1=(au S j).a
  ·have:=P.e
   rw[y,<-l,t]at this
   cases this
  ·omega
 ·rw[QS g]at d
  have l:(au S j).k=tS T ((au S j).a+1):=congrArg Prod.fst d;have A:(au S j).h=(au S j).a+2:=congrArg Prod.snd d
  have i:ii (tS T (au S j).a) ⟨#[36]⟩=false:=by
   cases e:ii (tS T (au S j).a) ⟨#[36]⟩
   ·rfl
   ·rw[e]at g;exact absurd rfl g
  refine b ?_ (by omega)
  have w:(au S j).z-1≠(au S j).a:=fun e=>by
   have:=(kL P.e).1;rw[e,i]at this;cases this
  have C:(au S j).z-1≠(au S j).a+1:=fun e=>by
   have:=P.e;rw[e,<-l,t]at this;cases this
  omega
theorem rZ(a:L+b<n)(c:n<=z6.length):(fa z6 L n).getD b ⟨#[]⟩=tS z6 (L+b):=by
 unfold fa tS;rw[QP,Rp,Ti,QV (by omega),SU,QP];rw[QO (by omega)];rfl
theorem pE(a:n<=b)(c:b<=z6.length):(fa z6 n b).length=b-n:=by
 unfold fa;rw[Rh,RO,RQ];omega
theorem xi(P:vD T S w):bu T (au S w).h=(fa T (au S w).h ((au S w).z-1)).takeWhile kz:=by
 have b:=P.zt;have a:=P.pos;have i:=P.le;unfold bu
 have e:T.drop (au S w).h=(T.drop (au S w).h).take ((au S w).z-1-(au S w).h)++(T.getD ((au S w).z-1) jf) :: T.drop (au S w).z:=by
  conv=>lhs;rw[<-Uk ((au S w).z-1-(au S w).h) (T.drop (au S w).h)]
  rw[List.drop_drop,show(au S w).h+((au S w).z-1-(au S w).h)=(au S w).z-1 by omega,Gb T ((au S w).z-1) (by omega),show(au S w).z-1+1=(au S w).z by omega]
 rw[e,show ∀(L:List Tk) (t:Tk) (M:List Tk),L++t :: M=(L++[t])++M from fun L t M=>by simp,yi]
 ·rw[vN _ _ (fun u f=>?_) P.dot]
  ·rfl
  ·obtain⟨q,d,g⟩:=RZ f
   rw[RO,RQ]at d;have:=(P.w ((au S w).h+q) (by omega) (by omega)).2;unfold bS at this;simp only[R0]at this
   have c:u.s=tS T ((au S w).h+q):=by
    rw[<-g,List.getElem_take,TH];unfold tS;rw[QP,QO (by omega)];rfl
   rw[c];exact this.1.1
 ·exact⟨T.getD ((au S w).z-1) jf,by simp,tw P.dot⟩
theorem qy(P:vD T S w):cU T (au S w).h:=⟨(au S w).z-1,P.le,by have:=P.zt;have:=P.pos;omega,tw P.dot⟩
theorem vt(h:lV T S v z4 w z1=0)(a:(z4.toList == [36,61])=true):(v.toList == [36,112])=true/\aJ z1 ⟨#[36,61]⟩=false/\z1.length≠0:=by
 unfold lV at h;rw[iW a (m:=[36,46]),QS (by decide),a,Su]at h
 cases b:(v.toList == [36,112])
 ·rw[b,TP,QS (by simp),QV (by rw[oC a];decide +kernel)]at h;cases h
 ·cases c:aJ z1 ⟨#[36,61]⟩
  ·rw[b,c]at h
   by_cases d:z1.length=0
   ·rw[QV (by rfl),QV d]at h;cases h
   ·exact⟨rfl,rfl,d⟩
  ·rw[b,c,QS (by decide),QV (by rw[oC a];decide +kernel)]at h;cases h
end
section
variable {T:List Tk} {S:List Sm} {f:Nat}
theorem zE:fa z6 b b=[]:=by unfold fa;rw[RV];simp
theorem vw(P:vD T S w):0<(fa T (au S w).h ((au S w).z-1)).length/\(((au S w).k.toList == [36,102])=true->1<(fa T (au S w).h ((au S w).z-1)).length):=by
 have a:=P.cl;unfold ip at a
 split at a
 ·cases a
 ·next e =>
  split at a
  ·cases a
  ·next b =>
   refine⟨by omega,fun c=>?_⟩;have:¬(fa T (au S w).h ((au S w).z-1)).length<2:=fun d=>b (by rw[c];simp[d])
   omega
theorem zD(f:w<=T)(a:T<=T.length)(c:aJ (fa T w T) v=true):∃q,w<=q/\q<T/\tS T q=v:=by
 unfold aJ at c;obtain⟨y,g,e⟩:=RB.1 c;obtain⟨q,d,i⟩:=RZ g;rw[pE T w T f a]at d;refine⟨w+q,by omega,by omega,?_⟩;have b:=rZ T w T q (by omega) a;rw[QP,QO (by rw[pE T w T f a];exact d)]at b;have h:(fa T w T)[q]=tS T (w+q):=b;rw[<-h,i];have:y.toList=v.toList:=by simpa using e
 apply U3
 apply Um.1
 rw[<-RY,<-RY,this]
theorem uq(P:vD T S w)(d:((au S w).k.toList == [36,112])=false):bu T (au S w).h=fa T (au S w).h ((au S w).z-1):=by
 rw[xi P];refine vo _ ?_
 cases e:aJ (fa T (au S w).h ((au S w).z-1)) ⟨#[36,61]⟩
 ·rfl
 ·have i:=P.zt
  have a:=P.pos;obtain⟨q,f,b,g⟩:=zD P.le (by omega) e;have c:=(P.w q f b).1;have:=(vt c (by rw[g];decide +kernel)).1;rw[d]at this;cases this
theorem uo(P:vD T S w):((tS T (au S w).h).toList == [36,61])=false/\(au S w).h<(au S w).z-1:=by
 have d:=(vw P).1;have f:=P.zt;have b:=P.pos;rw[pE T _ _ P.le (by omega)]at d;have a:(au S w).h<(au S w).z-1:=by omega
 refine⟨?_,a⟩
 cases e:((tS T (au S w).h).toList == [36,61])
 ·rfl
 ·have c:=(P.w _ (QQ _) a).1
  have:=(vt c e).2.2;rw[zE]at this;exact absurd rfl this
theorem zi(P:vD T S w):0<(bu T (au S w).h).length/\(bu T (au S w).h).getD 0 ⟨#[]⟩=tS T (au S w).h:=by
 obtain⟨c,f⟩:=uo P;have g:=P.zt;have a:=rZ T (au S w).h ((au S w).z-1) 0 (by omega) (by omega);have d:=(vw P).1;rw[xi P];rw[Tf]at a;generalize fa T (au S w).h ((au S w).z-1)=B at *
 cases B with
 | nil=>simp at d
 | cons x B =>
  have e:x=tS T (au S w).h:=a;have b:kz x=true:=by unfold kz;rw[e,c];rfl
  rw[SM b];exact⟨by simp,e⟩
theorem PY(p:Dr T T.length S f)(b:∀q,q<T.length->bh T S q=0)(n:Nat)(i:n<=S.length):Ki T S n:=fun j g d=>by
 have a:bS (au S j).k=false:=by
  unfold aC aG at d;simp only[Rz]at d
  rcases d with (h | h) | (h | h) <;> exact fX h (by decide)
 have P:=oP p b j (by omega) a;refine⟨(zi P).1,fun e=>?_⟩;have c:((au S j).k.toList == [36,112])=false:=by rw[iW e];decide
 show 1<(bu T (au S j).h).length
 rw[uq P c];exact(vw P).2 e
theorem wU(h:lV T S v z4 w z1=0)(a:bS z4=false)(c:(z4.toList == [36,61])=false)(d:aJ z1 ⟨#[36,61]⟩=false):(if((v.toList == [36,99])||(v.toList == [36,118]))=true then jW T S z4 w (v.toList == [36,99]) z1 else jm T S v z4 w z1)=0:=by
 unfold lV at h
 have b:(z4.toList == [36,46])=false:=by
  unfold bS at a;simp only[R0]at a;exact a.1.1
 rw[b,c,d,QS (by simp),TP,QS (by simp)]at h
 split at h
 ·cases h
 ·exact h
theorem MH(P:vD T S w)(c:(aC (au S w).k||aG (au S w).k)=true):eF T S (tS T (au S w).h) w=true:=by
 obtain⟨g,f⟩:=uo P;obtain⟨d,i⟩:=P.w _ (QQ _) f;rw[zE]at d;have a:=wU d i g rfl
 have b:(((au S w).k.toList == [36,99])||((au S w).k.toList == [36,118]))=false/\((au S w).k.toList == [36,100])=false:=by
  unfold aC aG at c;simp only[Rz]at c
  rcases c with (h | h) | (h | h) <;> (rw[iW h,iW h,iW h];decide)
 rw[b.1,QS (by simp)]at a;unfold jm at a;rw[b.2,QS (by simp),QV (by rfl)]at a
 cases e:eF T S (tS T (au S w).h) w
 ·rw[e,QV rfl]at a;cases a
 ·rfl
theorem PZ(P:vD T S w)(a:((au S w).k.toList == [36,102])=true):kV T S (tS T ((au S w).h+1)) w=true/\(bu T (au S w).h).getD 1 ⟨#[]⟩=tS T ((au S w).h+1):=by
 have n:=(vw P).2 a;have p:=P.zt;have g:=P.pos;rw[pE T _ _ P.le (by omega)]at n;have b:((au S w).k.toList == [36,112])=false:=by rw[iW a];decide
 have i:=rZ T (au S w).h ((au S w).z-1) 1 (by omega) (by omega);refine⟨?_,by rw[uq P b];exact i⟩;obtain⟨f,o⟩:=P.w ((au S w).h+1) (by omega) (by omega)
 have m:((tS T ((au S w).h+1)).toList == [36,61])=false:=by
  cases e:((tS T ((au S w).h+1)).toList == [36,61])
  ·rfl
  ·have:=(vt f e).1
   rw[b]at this;cases this
 have d:fa T (au S w).h ((au S w).h+1)=[tS T (au S w).h]:=by
  have:=Bc T (au S w).h (au S w).h (QQ _) (by omega);rw[zE]at this;exact this
 have l:aJ (fa T (au S w).h ((au S w).h+1)) ⟨#[36,61]⟩=false:=by
  rw[d,rt];have e:(⟨#[36,61]⟩:ByteArray).toList=[36,61]:=by decide +kernel
  rw[e];exact(uo P).1
 have c:=wU f o m l;rw[iW a,iW a,QS (by decide)]at c;unfold jm at c;rw[d,iW a,QS (by decide),QS (by simp),a,QV rfl,QS (by simp)]at c
 cases j:kV T S (tS T ((au S w).h+1)) w
 ·rw[j,QV rfl]at c;cases c
 ·rfl
theorem Cr(p:Dr T T.length S f)(n:∀q,q<T.length->bh T S q=0)(hi:w<=S.length)(hk:T<=S.length)(r:eF T S v w=true)(s:kV T S v T=true):False:=by
 unfold eF jq at r;unfold kV jq at s;obtain⟨j,t,x⟩:=RB.1 r;obtain⟨m,H,y⟩:=RB.1 s;have t:=Q9.1 t;have H:=Q9.1 H;unfold pF at x y;rw[nQ.1,Rf,Rf]at x;rw[nQ.2,Rf,Rf]at y;obtain⟨o,J,-⟩:=x;obtain⟨E,G,-⟩:=y
 have c:∀(j:Nat),j<S.length->(((au S j).k.toList == [36,99])=true∨((au S j).k.toList == [36,118])=true)->aJ (bu T (au S j).h) v=true->∃B,jW T S v j ((au S j).k.toList == [36,99]) B=0:=fun j t a K=>by
  have d:bS (au S j).k=false:=by rcases a with h | h <;> exact fX h (by decide)
  have P:=oP p n j t d;have k:((au S j).k.toList == [36,112])=false:=by rcases a with h | h <;> (rw[iW h];decide)
  rw[uq P k]at K;have hz:=P.zt;have M:=P.pos;obtain⟨q,u,F,e⟩:=zD P.le (by omega) K;obtain⟨U,W⟩:=P.w q u F
  have b:∀q,(au S j).h<=q->q<(au S j).z-1->((tS T q).toList == [36,61])=false:=fun q r s=>by
   cases e:((tS T q).toList == [36,61])
   ·rfl
   ·have:=(vt (P.w q r s).1 e).1
    rw[k]at this;cases this
  have O:aJ (fa T (au S j).h q) ⟨#[36,61]⟩=false:=by
   cases Y:aJ (fa T (au S j).h q) ⟨#[36,61]⟩
   ·rfl
   ·obtain⟨V,Q,a2,X⟩:=zD u (by omega) Y
    have:=b V Q (by omega);rw[X]at this;exact absurd this (by decide +kernel)
  have I:=wU U W (b q u F) O;rw[QV (by rcases a with h | h <;> rw[h] <;> simp),e]at I;exact⟨_,I⟩
 obtain⟨Z,i⟩:=c j (by omega) (Q0 o) J;obtain⟨B2,g⟩:=c m (by omega) (QU E) G;have l:((au S m).k.toList == [36,99])=false:=by rw[iW E];decide
 rw[o]at i;rw[l]at g;unfold jW at i g
 rcases Nat.lt_trichotomy j m with A | C | D
 ·have L:eF T S v m=true:=by
   unfold eF jq;exact mY j A (by unfold pF;rw[nQ.1,o,J];simp)
  rw[L]at g
  split at g
  ·cases g
  ·simp at g
 ·rw[C,l]at o;cases o
 ·have R:jq T S ⟨#[36,118]⟩ v j false=true:=by
   unfold jq;exact mY m D (by unfold pF;rw[nQ.2,E,G];simp)
  have N:jC T S v j=true:=by unfold jC;rw[R];simp
  rw[N]at i
  split at i
  ·cases i
  ·simp at i
theorem Qw(p:Dr T T.length S f)(a:∀q,q<T.length->bh T S q=0)(n:Nat)(z:n<=S.length):OK T S n:=fun r A d=>by
 have P:=oP p a r (by omega) (by unfold aC at d;rcases Rz _ _ ▸ d with h | h <;> exact fX h (by decide));have o:=MH P (by rw[d];rfl);have v:(cI T S r).getD 0 ⟨#[]⟩=tS T (au S r).h:=(zi P).2;rw[v]
 cases e:aJ (gK T S (bW T S r) (bW T S r).length) (tS T (au S r).h)
 ·rfl
 ·exfalso
  unfold aJ at e;obtain⟨y,k,g⟩:=RB.1 e;unfold gK at k;obtain⟨i,l,rfl⟩:=Sh.1 k;unfold xM at l;obtain⟨c,b⟩:=RG.1 l;have c:=Q9.1 c;have s:(bW T S r).getD i 0=(bW T S r)[i]:=by rw[QP,QO c];rfl
  unfold GG at b;rw[s]at b g;have B:=sJ T S r (bW T S r)[i] (Ra c);generalize (bW T S r)[i]=j at *;have t:=oP p a j (by omega) (fX b (by decide));obtain⟨m,w⟩:=PZ t b;have x:cI T S j=bu T (au S j).h:=rfl;rw[x,w]at g
  have u:tS T ((au S j).h+1)=tS T (au S r).h:=by
   have:(tS T ((au S j).h+1)).toList=(tS T (au S r).h).toList:=by simpa using g
   apply U3
   apply Um.1
   rw[<-RY,<-RY,this]
  rw[u]at m;exact Cr p a (by omega) (by omega) o m
end
theorem J7(f:l.length<=10000)(a:∀q,q<l.length->bh l (aj l) q=0)(n:Nat)(e:n<=(aj l).length):nJ l (aj l) n:=by
 have p:=fw l;have i:(aj l).length<=l.length:=oF l l.length;obtain⟨d,g⟩:=Am l (by omega) a;have h:nJ l (aj l) (aj l).length:=⟨d,by omega,f,fun j b c=>qy (oP p a j b c),g⟩;exact h.mono e
def FO(S:List Sm)(a r:Nat):Prop:=r<a/\(aC (au S r).k||aG (au S r).k)=true
structure OJ(T:List Tk)(S:List Sm)(a i:Nat)(s:dj):Prop where
 nd:s.need<=10000
 ways:s.ref=-1∨(s.ref=-2/\s.back<i)∨∃r,FO S a r/\s.ref=(r:Nat)/\s.need=iD T S (r:Nat)
def mT(T:List Tk)(S:List Sm)(a:Nat)(P:List dj):Prop:=∀i,i<P.length->OJ T S a i (bO P i)
section
variable {T:List Tk} {S:List Sm} {a:Nat}
theorem mT.snoc{P:List dj}{s:dj}(h:mT T S a P)(d:OJ T S a P.length s):mT T S a (P++[s]):=fun i f=>by
 rw[QZ,Ro,Rr]at f
 by_cases e:i<P.length
 ·have b:bO (P++[s]) i=bO P i:=by unfold bO;rw[QP,QP,Q6 e]
  rw[b];exact h i e
 ·have c:i=P.length:=by omega
  have b:bO (P++[s]) i=s:=by unfold bO;rw[c,QP,Q4 (QQ _),RV];rfl
  rw[b,c];exact d
theorem mT.nil:mT T S a []:=fun i b=>by simp at b
theorem Cs(b:a<=10000)(c:w<a):iD T S (w:Nat)<=10000:=by
 unfold iD
 split
 ·omega
 ·split
  ·have:=ki T S (w:Int).toNat
   rw[R9]at this ⊢;omega
  ·omega
theorem zm(h:eU T S a v=(w:Int)):FO S a w:=by
 have d:=pZ T S a v;rw[h]at d
 rcases d with e | ⟨q,g,e⟩
 ·omega
 ·have i:w=q:=by omega
  subst i;refine⟨g,?_⟩;unfold eU at h
  split at h
  ·omega
  ·split at h
   ·unfold bE at h
    cases c:(List.range a).find? (qK T S v) with
    | none=>rw[c]at h;simp at h
    | some j =>
     rw[c]at h;have f:j=w:=by have h:(j:Int)=(w:Int):=h;omega
     have b:=Tl c;rw[f]at b;unfold qK at b;rw[Rf]at b
     cases k:(aC (au S w).k||aG (au S w).k)
     ·exfalso
      have:bG T (au S w)=⟨#[]⟩:=by unfold bG;rw[k,QS (by simp)]
      rw[this]at b;exact absurd b.1 (by decide +kernel)
     ·rfl
   ·omega
theorem KZ(m:a<=10000)(d:Nat)(n:Nat):∀i P,mT T S a P->mT T S a (m8 T S a d n i P).st/\((m8 T S a d n i P).why=0->0<(m8 T S a d n i P).st.length)/\(m8 T S a d n i P).st.length<=P.length+n:=by
 induction n with
 | zero =>
  intro i P b;rw[m8]
  split
  ·exact⟨mT.nil,fun h=>(by cases h),Rn _⟩
  ·exact⟨b,fun _=>(by simp only;omega),(by simp)⟩
 | succ n l =>
  intro i P b;rw[m8]
  split
  ·obtain⟨e,c,f⟩:=l (i+1) _ (b.snoc (s:=⟨-1,0,0,(T.getD i jf).file,(T.getD i jf).line,(T.getD i jf).col⟩) ⟨by show 0<=10000;omega,Q0 rfl⟩)
   exact⟨e,c,by simp at f ⊢;omega⟩
  ·split
   ·exact⟨mT.nil,fun h=>(by cases h),Rn _⟩
   ·next e c =>
    obtain⟨k,j⟩:∃k:Nat,eU T S a (tS T i)=k:=⟨(eU T S a (tS T i)).toNat,by omega⟩
    have g:=zm j;rw[j];obtain⟨e,c,f⟩:=l (i+1) _ (b.snoc (s:=⟨(k:Int),0,iD T S (k:Int),(T.getD i jf).file,(T.getD i jf).line,(T.getD i jf).col⟩) ⟨Cs m g.1,QU (QU ⟨k,g,rfl,rfl⟩)⟩);exact⟨e,c,by simp at f ⊢;omega⟩
theorem Mv(A:a<=10000)(d:List Nat)(i:∀r∈d,FO S a r)(v:Lt)(L:List Lt):∀P b f n,mT T S a P->(∀t∈b,t<P.length)->(n=true->0<P.length) ->
  mT T S a (ni T S d v L P b f n).st/\((ni T S d v L P b f n).why=0->0<(ni T S d v L P b f n).st.length)/\(ni T S d v L P b f n).st.length<=P.length+L.length:=by
 induction L with
 | nil =>
  intro P b f n o _ _;rw[ni]
  split
  ·exact⟨mT.nil,fun h=>(by cases h),Rn _⟩
  ·split
   ·exact⟨mT.nil,fun h=>(by cases h),Rn _⟩
   ·exact⟨o,fun _=>(by simp only;omega),(by simp)⟩
 | cons l L w =>
  intro P b f n o u z;rw[ni]
  split
  ·obtain⟨g,j,k⟩:=w P b (f++Ds l.c) false o u (fun h=>by cases h)
   exact⟨g,j,by simp at k ⊢;omega⟩
  ·split
   ·split
    ·exact⟨mT.nil,fun h=>(by cases h),Rn _⟩
    ·next y =>
     have C:=yQ (f++Ds l.c) (d.length+b.length);generalize iO (f++Ds l.c) (d.length+b.length)=m at *
     have D:OJ T S a P.length (rM T S d b m l):=by
      unfold rM
      split
      ·next B =>
       have q:m-1<d.length:=by omega
       have e:d.getD (m-1) 0=d[m-1]:=by rw[QP,QO q];rfl
       have x:=i d[m-1] (Ra q);rw[e];exact⟨Cs A x.1,QU (QU ⟨_,x,rfl,rfl⟩)⟩
      ·next B =>
       have q:m-d.length-1<b.length:=by omega
       have e:b.getD (m-d.length-1) 0=b[m-d.length-1]:=by rw[QP,QO q];rfl
       rw[e];exact⟨by show 0<=10000;omega,QU (Q0 ⟨rfl,u _ (Ra q)⟩)⟩
     obtain⟨g,j,k⟩:=w _ b ⟨#[]⟩ true (o.snoc D) (fun t p=>by rw[QZ];have:=u t p;omega) (fun _=>by simp);exact⟨g,j,by simp at k ⊢;omega⟩
   ·split
    ·next y =>
     have E:=z y.2
     obtain⟨g,j,k⟩:=w P (b++[P.length-1]) f false o (fun t p=>by
      rcases Rq.1 p with h | h
      ·exact u t h
      ·rw[Q8.1 h];omega) (fun h=>by cases h)
     exact⟨g,j,by simp at k ⊢;omega⟩
    ·split
     ·obtain⟨g,j,k⟩:=w _ b f false (o.snoc (s:=⟨-1,0,0,l.file,l.line,l.col⟩) ⟨by show 0<=10000;omega,Q0 rfl⟩) (fun t p=>by rw[QZ];have:=u t p;omega) (fun h=>by cases h)
      exact⟨g,j,by simp at k ⊢;omega⟩
     ·exact⟨mT.nil,fun h=>(by cases h),Rn _⟩
theorem NT(o:a<=10000)(q:dC T)(c:Nat)(n:Nat):∀i b,(∀r∈b,FO S a r)->mT T S a (u9 T S a c n i b).st/\((u9 T S a c n i b).why=0->0<(u9 T S a c n i b).st.length)/\(u9 T S a c n i b).st.length<=1024*T.length:=by
 induction n with
 | zero=>intro i b _;rw[u9];exact⟨mT.nil,fun h=>(by cases h),Rn _⟩
 | succ n p =>
  intro i b j;rw[u9]
  split
  ·obtain⟨f,g,l⟩:=Mv (T:=T) o b j (Ev (T.getD c jf)) (eR T (i+1) c) [] [] ⟨#[]⟩ false mT.nil (fun t m=>by cases m) (fun h=>by cases h)
   have:=xf T q (i+1) c;rw[Rr,SG]at l;exact⟨f,g,by unfold j4;omega⟩
  ·split
   ·exact⟨mT.nil,fun h=>(by cases h),Rn _⟩
   ·split
    ·exact⟨mT.nil,fun h=>(by cases h),Rn _⟩
    ·next f g l =>
     obtain⟨k,e⟩:∃k:Nat,eU T S a (tS T i)=k:=⟨(eU T S a (tS T i)).toNat,by omega⟩
     refine p (i+1) _ (fun r d=>?_)
     rcases Rq.1 d with h | h
     ·exact j r h
     ·rw[Q8.1 h,e,R9];exact zm e
theorem vU(g:a<=10000)(k:dC T)(l:T.length<=10000)(e b:Nat)(m:b<=T.length):mT T S a (fU T S a e b).st/\((fU T S a e b).why=0->0<(fU T S a e b).st.length)/\(fU T S a e b).st.length<=100000000:=by
 unfold fU
 split
 ·unfold jQ
  obtain⟨d,c,f⟩:=NT (T:=T) (S:=S) g k b (b-(e+2)) (e+2) (bW T S a) (fun r h=>by
   obtain⟨i,-,j⟩:=yE T S a r h;exact⟨i,by rw[j];simp⟩)
  exact⟨d,c,by omega⟩
 ·obtain⟨d,c,f⟩:=KZ (T:=T) (S:=S) g b (b-(e+1)) (e+1) [] mT.nil
  exact⟨d,c,by simp at f;omega⟩
theorem Hz(l:a<=10000)(s:dC T)(q:T.length<=10000)(e b:Nat)(n:b<=T.length):Ko T S a (fU T S a e b):=by
 obtain⟨f,o,p⟩:=vU (T:=T) (S:=S) l s q e b n;refine⟨p,fun i=>?_,fun h=>⟨o h,fun i c d=>⟨?_⟩⟩⟩
 ·by_cases c:i<(fU T S a e b).st.length
  ·have:=(f i c).nd;omega
  ·have:bO (fU T S a e b).st i=Qk:=by unfold bO;rw[QP,Rv (by omega)];rfl
   rw[this];show 0<=100000;omega
 ·rcases(f i c).ways with h | ⟨h,t⟩ | ⟨r,g,k,m⟩
  ·exact absurd h d
  ·exact Q0 ⟨h,t⟩
  ·refine QU ⟨r,g.1,k,g.2,fun j=>?_⟩
   rw[m];unfold iD;rw[QS (by omega),R9,QV j]
end
def xB(t:Tk):Prop:=t.s.size<=1024/\0<=t.col/\t.col<=10000
theorem zR:dC []:=fun t a=>by cases a
theorem mg{M:List Tk}(h:dC S)(k:dC M):dC (S++M):=fun t a=>by
 rcases Rq.1 a with e | e
 ·exact h t e
 ·exact k t e
theorem lF(h:xB z7):dC [z7]:=fun u a=>by rw[Q8.1 a];exact h
theorem sG(r:Int)(h:xB z7):xB (qN z7 r):=⟨by show(0:Nat)<=1024;omega,h.2⟩
theorem AC(s:ByteArray)(r:Int)(k:Nat)(b:s.size<=1024)(c:k<=1024):xB (md I a s r k):=by
 have:=zJ a k;exact⟨b,by show 0<=bm a k;omega,by show bm a k<=10000;omega⟩
theorem Dp(c:dC l)(d:n<=b)(e:b<=1024):dC (je I a n b l):=by
 unfold je
 split
 ·exact c
 ·exact mg c (lF (AC I a _ 0 n (by rw[Tv];omega) (by omega)))
theorem Dn(d:b<=1024):dC (jd I a b):=by
 induction b with
 | zero=>exact zR
 | succ b c =>
  rw[jd]
  split
  ·exact Dp I a _ b _ (c (by omega)) (og a b) (by omega)
  ·exact c (by omega)
theorem Ke(b:a.size<=1024):dC (ij I a):=by
 unfold ij
 split
 ·next i h =>
  have c:i<a.size:=Q9.1 (Ry h);exact mg (Dn I a i (by omega)) (lF (AC I a _ 1 i (by show(0:Nat)<=1024;omega) (by omega)))
 ·exact mg (Dp I a _ _ _ (Dn I a _ b) (og a _) b) (lF (AC I a _ 0 _ (by show(0:Nat)<=1024;omega) b))
theorem wf(h:xB z7)(k:dC S):dC (z7 :: S):=fun u a=>by
 rcases Ri.1 a with e | e
 ·rw[e];exact h
 ·exact k u e
theorem KD(b:Bool)(L:List Tk)(h:dC L):dC (bQ b L):=by
 induction L generalizing b with
 | nil=>cases b <;> exact zR
 | cons t L c =>
  have d:xB t:=h t (Rm ..);have a:dC L:=fun u f=>h u (Rl _ f)
  have e:∀r,xB ⟨⟨#[]⟩,r,t.file,t.line,t.col⟩:=fun r=>⟨by show(0:Nat)<=1024;omega,d.2⟩
  cases b
  ·rw[bQ]
   split
   ·exact c true a
   ·exact wf d (c false a)
  ·rw[bQ]
   split
   ·exact wf d (c true a)
   ·split
    ·exact c false a
    ·split
     ·exact wf (e 3) (c true a)
     ·split
      ·exact lF (e 2)
      ·exact c true a
theorem Jn(f:∀k e c,dC c->dC (z3 k e c).1)(v:Fs)(n:Nat):∀L,L.length<=n->dC L->∀e c,dC c->dC (cv z3 v L e c).1:=by
 induction n with
 | zero =>
  intro L m _ e c d
  cases L with
  | nil=>rw[cv];exact d
  | cons _ _=>simp at m
 | succ n o =>
  intro L m q e c d
  cases L with
  | nil=>rw[cv];exact d
  | cons t r =>
   have l:xB t:=q t (Rm ..);have j:dC r:=fun u p=>q u (Rl _ p)
   have i:r.length<=n:=by simpa using m
   rw[cv.eq_def];simp only
   split
   ·split
    ·exact d
    ·exact mg d (lF (sG 7 l))
   ·split
    ·exact o r i j e _ (mg d (lF l))
    ·split
     ·exact mg d (lF (sG 4 l))
     ·cases r with
      | nil=>exact d
      | cons a r =>
       have s:xB a:=j a (Rm ..)
       cases r with
       | nil=>exact mg d (lF (sG _ s))
       | cons b r =>
        have w:xB b:=j b (Rl _ (Rm ..));have g:dC r:=fun u p=>j u (Rl _ (Rl _ p))
        have h:r.length<=n:=by simp at i;omega
        simp only
        split
        ·exact mg d (lF (sG _ s))
        ·split
         ·exact mg d (lF (sG _ w))
         ·split
          ·exact o r h g e c d
          ·split
           ·exact f _ e c d
           ·exact o r h g _ _ (f _ e c d)
theorem Jr(b:∀k,(ak H k).size<=1024)(n:Nat):∀k c a,dC a->dC (dQ H n k c a).1:=by
 induction n with
 | zero=>intro k c a d;exact d
 | succ n e =>
  intro k c a d;rw[dQ];exact Jn _ e H _ _ (QQ _) (KD _ _ (Ke _ _ (b k))) _ _ d
theorem BD(a:∀b,(ak H b).size<=1024):dC (cC H b).1:=by
 have h:dC (pr H b):=Jr H a _ _ _ _ zR;unfold cC
 split
 ·exact fun t c=>h t (TO _ c)
 ·exact h
def zN(T:List Tk)(S:List Sm)(j:Nat):Nat:=(au S j).h+(bu T (au S j).h).length
theorem Ql(p:ByteArray->Bool)(L:List ByteArray)(h:∃x∈L,p x=false):(L.takeWhile p).length<L.length/\p (L.getD (L.takeWhile p).length ⟨#[]⟩)=false/\∀q,q<(L.takeWhile p).length->p (L.getD q ⟨#[]⟩)=true:=by
 induction L with
 | nil=>obtain⟨x,d,-⟩:=h;cases d
 | cons a L i =>
  cases b:p a
  ·rw[List.takeWhile_cons,QS (by rw[b];simp)]
   exact⟨by simp,b,fun q f=>by simp at f⟩
  ·rw[List.takeWhile_cons,QV b]
   obtain⟨k,g,j⟩:=i (by
    obtain⟨x,d,c⟩:=h
    rcases Ri.1 d with e | e
    ·rw[e,b]at c;cases c
    ·exact⟨x,e,c⟩)
   refine⟨by simp;omega,g,fun q f=>?_⟩
   cases q with
   | zero=>exact b
   | succ q=>exact j q (by simpa using f)
theorem Pw(P:vD S d w)(m:((au d w).k.toList == [36,112])=true) :
  (au d w).h<=zN S d w/\((tS S (zN S d w)).toList == [36,61])=true/\(∀q,(au d w).h<=q->q<zN S d w->((tS S q).toList == [36,61])=false)/\zN S d w<(au d w).z-1:=by
 have t:=P.zt;have j:=P.pos;have f:=P.le;have a:=P.cl;have n:=pE S (au d w).h ((au d w).z-1) f (by omega)
 have o:aJ (fa S (au d w).h ((au d w).z-1)) ⟨#[36,61]⟩=true:=by
  unfold ip at a
  split at a
  ·cases a
  ·split at a
   ·cases a
   ·cases e:aJ (fa S (au d w).h ((au d w).z-1)) ⟨#[36,61]⟩
    ·rw[m,e,QV (by decide)]at a;cases a
    ·rfl
 obtain⟨y,l,p⟩:=RB.1 o
 have c:∃x∈fa S (au d w).h ((au d w).z-1),kz x=false:=by
  refine⟨y,l,?_⟩;unfold kz;have e:y.toList=(⟨#[36,61]⟩:ByteArray).toList:=by simpa using p
  rw[e];decide +kernel
 obtain⟨g,b,i⟩:=Ql kz _ c;rw[<-xi P]at g b i;rw[n]at g;unfold zN;refine⟨by omega,?_,fun q s r=>?_,by omega⟩
 ·rw[rZ S _ _ _ (by omega) (by omega)]at b
  unfold kz at b;simpa using b
 ·have:=i (q-(au d w).h) (by omega)
  rw[rZ S _ _ _ (by omega) (by omega),show(au d w).h+(q-(au d w).h)=q by omega]at this;unfold kz at this;simpa using this
def Qe(T:List Tk)(S:List Sm)(a:Nat):jS:=fU T S a (zN T S a) ((au S a).z-1)
def JH(T:List Tk)(S:List Sm)(a:Nat):ik:=mQ T S a (Qe T S a) (T.getD ((au S a).z-1) jf)
theorem AY.keptS(h:AY f z0 w d)(k:ab zb f y)(m:∀g,z0=some ⟨g,0,none⟩->g∉zb):AY y z0 w d:=by
 refine⟨h.1,fun j t i=>?_⟩;obtain⟨g,e,a,n,c,l,b⟩:=h.2 j t i;have q:∀o,y.cell? ⟨g,o,none⟩=f.cell? ⟨g,o,none⟩:=fun o=>Q5 (k.block g a (m g e))
 exact⟨g,e,QW a k.size,by rw[q];exact n,by rw[q];exact c,by rw[q];exact l,by rw[q];exact b⟩
theorem fz.off{v:Option Addr}(h:fz f w S z0 g d y0 M)(p:f.heap[T]?=some (.cells #[.slice v y5 y6,i,o,D,z5] 85 (0,0)))(k:ab [T] f y):fz y w S z0 g d y0 M:=by
 have u:f.cell? ⟨T,0,none⟩=some (.slice v y5 y6):=by rw[aa p];rfl
 refine⟨k.get h.d (fun n=>?_),?_,?_⟩
 ·simp at n
  subst n;have:=h.d.symm.trans p;simp at this
 ·cases r:S with
  | nil=>rw[r]at h;exact⟨h.t.1,fun j t l=>by simp at l⟩
  | cons t L =>
   rw[r]at h;refine h.t.keptS k (fun c e b=>?_);simp at b;subst b;obtain⟨c,m,-,a,-⟩:=h.t.2 0 t rfl;rw[m]at e;cases e;rw[US]at a;rw[u]at a;cases a
 ·cases q:d with
  | nil=>rw[q]at h;exact⟨h.s.1,fun j t l=>by simp at l⟩
  | cons t L =>
   rw[q]at h;refine h.s.keptS k (fun c e b=>?_);simp at b;subst b;obtain⟨c,m,-,a,-⟩:=h.s.2 0 t rfl;rw[m]at e;cases e;rw[US]at a;rw[u]at a;cases a
theorem Em(g:Option Addr)(v:Nat)(f:Option Addr)(x:Nat)(E:Option Addr)(H c:Nat)(y D F:Value)(w:World)(G:w.heap[n]?=some (.cells #[.slice E H c,y,.pointer (some ⟨b,0,none⟩),D,F] 85 (0,0)))(M:fz w b l g v (aj l) f x)(u:l.length<=10000)(C:dC l)(d:∀q,q<l.length->bh l (aj l) q=0) :
  Calls prog 57 #[.pointer (some ⟨n,0,none⟩)] w fun e T=>Kl l (aj l) n b (.slice E H c) y (Qe l (aj l)) (JH l (aj l)) w e T:=by
 have p:=fw l;have W:(aj l).length<=l.length:=oF l l.length;have s:∀m,ab [n] w m->fz m b l g v (aj l) f x:=fun m k=>M.off G k
 have j:∀a,tX (aj l) a=true->bS (au (aj l) a).k=false:=fun a h=>fX h (by decide)
 refine El n b l g v (aj l) f x _ y D F _ _ w G s (by omega) (J7 l u d _ (QQ _)).ok.a ?_ ?_ ?_
 ·intro a o t m B
  have P:=oP p d a o (j a t);obtain⟨N,O,V,Q⟩:=Pw P t;have:=P.pos;have:=P.zt;exact DP b a (zN l (aj l) a) ((au (aj l) a).z-1) l g v _ f x m (s m B) (J7 l u d a (by omega)) o (qy P) C N O V (by omega) Q (by omega) P.dot
 ·intro a o t A m B U
  have P:=oP p d a o (j a t);have:=P.pos;have:=P.zt;exact AI b a ((au (aj l) a).z-1) l g v _ f x (Qe l (aj l) a) A m (s m B) (J7 l u d a (by omega)) (PY p d a (by omega)) (Qw p d a (by omega)) o (qy P) ((J7 l u d _ (QQ _)).ok.a a o) (by omega) (by omega) U (Hz (by omega) C u _ _ (by omega))
 ·intro a o t
  have P:=oP p d a o (j a t);have:=P.zt;obtain⟨J,-,R⟩:=vU (T:=l) (S:=aj l) (a:=a) (by omega) C u (zN l (aj l) a) ((au (aj l) a).z-1) (by omega);refine⟨R,fun i I=>?_⟩
  show(bO (fU l (aj l) a (zN l (aj l) a) ((au (aj l) a).z-1)).st i).ref<=(a:Int)
  rcases(J i I).ways with h | ⟨h,-⟩ | ⟨r,L,K,-⟩
  ·rw[h];omega
  ·rw[h];omega
  ·rw[K];have:=L.1;omega
theorem EY(i:∀k d c,d[k]?=some false->(z3 k d c).1.length+2000*aQ (z3 k d c).2<=c.length+2000*aQ d)(f:Fs)(n:Nat):∀L,L.length<=n->∀d c,(cv z3 f L d c).1.length+2000*aQ (cv z3 f L d c).2<=c.length+L.length+2000*aQ d:=by
 induction n with
 | zero =>
  intro L l d c
  cases L with
  | nil=>rw[cv];simp
  | cons _ _=>simp at l
 | succ n m =>
  intro L l d c
  cases L with
  | nil=>rw[cv];simp
  | cons t r =>
   have j:r.length<=n:=by simpa using l
   rw[cv.eq_def];simp only[Ro]
   split
   ·split
    ·simp only;omega
    ·simp only[QZ,Ro,Rr];omega
   ·split
    ·have:=m r j d (c++[t])
     rw[QZ,Ro,Rr]at this;omega
    ·split
     ·simp only[QZ,Ro,Rr];omega
     ·cases r with
      | nil=>simp only;omega
      | cons a r =>
       cases r with
       | nil=>simp only[QZ,Ro,Rr];omega
       | cons b r =>
        have g:r.length<=n:=by simp at j;omega
        simp only[Ro]
        split
        ·simp only[QZ,Ro,Rr];omega
        ·split
         ·simp only[QZ,Ro,Rr];omega
         ·split
          ·have:=m r g d c
           omega
          ·next h =>
           have o:d[(bF f a.s).toNat]?=some false:=by
            rw[QP]at h
            cases e:d[(bF f a.s).toNat]? with
            | none=>rw[e]at h;exact absurd rfl h
            | some x=>rw[e]at h;cases x;rfl;exact absurd rfl h
           have p:=i (bF f a.s).toNat d c o
           split
           ·omega
           ·have:=m r g (z3 (bF f a.s).toNat d c).2 (z3 (bF f a.s).toNat d c).1
            omega
theorem E0(c:∀k,(ak H k).size<=1024)(n:Nat):∀k b a,b[k]?=some false->(dQ H n k b a).1.length+2000*aQ (dQ H n k b a).2<=a.length+2000*aQ b:=by
 induction n with
 | zero=>intro k b a _;rw[dQ];simp
 | succ n e =>
  intro k b a d;rw[dQ];have h:=EY (dQ H n) e H _ (qU H k) (QQ _) (b.set k true) a;have f:=Dd H k;have g:=lB b k d;have i:=c k;omega
theorem Ig(e:H.length<=4)(a:∀b,(ak H b).size<=1024)(d:b<H.length):(cC H b).1.length<=10000:=by
 have h:=E0 H a H.length b (List.replicate H.length false) [] (by rw[Se,QV d]);rw[mO]at h;have c:(pr H b).length<=10000:=by unfold pr;simp at h;omega
 unfold cC
 split
 ·rw[SE];omega
 ·exact c
structure OG(w:World)(v:Nat)(fs:Fs)(h:Hd)(T:List Tk)(lo hi b:Nat)(aT:Option Addr)(cT:Nat)(aS:Option Addr)(cS:Nat)(PS:List (jS×Hd))(h1:Hd)(RS:List ik)(h2:Hd):Prop where
 rv:fB w v fs h true (.pointer (some ⟨b,0,none⟩)) (.slice h1.ao PS.length h1.cap) (.slice h2.ao RS.length h2.cap)
 db:fz w b T aT cT (aj T) aS cS
 ps:PS.map (·.1)=(List.range (aj T).length).map (xK (aj T) (Qe T (aj T)))
 fin:pu (aj T) PS ((List.range (aj T).length).map (oN T (aj T) (JH T (aj T)))) RS (aj T).length
 s1:aw w h1 (fP PS)
 s2:aw w h2 (fM RS)
 sq:∀x∈PS,cm w x.2.ao 6 kU x.1.st
 nb:lo<=b/\b<hi
 nT:∀g,aT=some ⟨g,0,none⟩->lo<=g/\g<hi
 nS:∀g,aS=some ⟨g,0,none⟩->lo<=g/\g<hi
 n1:∀g,h1.blk=some g->lo<=g/\g<hi
 n2:∀g,h2.blk=some g->lo<=g/\g<hi
 nq:∀x∈PS,∀g,x.2.ao=some ⟨g,0,none⟩->lo<=g/\g<hi
def xD(w:World)(v:Nat)(fs:Fs)(h:Hd)(T:List Tk)(lo hi:Nat):Prop:=∃b aT cT aS cS PS h1 RS h2,OG w v fs h T lo hi b aT cT aS cS PS h1 RS h2
theorem xD.kept(a:xD f w x k S T g)(h:ab zb f y)(z:w∉zb)(l:∀q,k.blk=some q->q∉zb)(r:∀q,T<=q->q<g->q∉zb):xD y w x k S T g:=by
 obtain⟨b,n,o,u,B,A,m,v,p,a⟩:=a;have q:∀c,T<=c/\c<g->c∉zb:=fun c i=>r c i.1 i.2
 exact⟨b,n,o,u,B,A,m,v,p,{ a with
  rv:=a.rv.keptS h z l
  db:=⟨h.get a.db.d (q b a.nb),a.db.t.keptS h (fun c e=>q c (a.nT c e)),a.db.s.keptS h (fun c e=>q c (a.nS c e))⟩
  s1:=a.s1.Vf (fun c e=>h.block c (a.s1.lt e) (q c (a.n1 c e)))
  s2:=a.s2.Vf (fun c e=>h.block c (a.s2.lt e) (q c (a.n2 c e)))
  sq:=fun i j=>(a.sq i j).keptS h (fun c e=>q c (a.nq i j c e)) }⟩
theorem xD.rvAt(a:xD f w x k S T g):∃c e d,fB f w x k true c e d:=by
 obtain⟨b,h,i,n,o,m,p,j,l,a⟩:=a;exact⟨_,_,_,a.rv⟩
theorem Me{X:World}{h:List (jS×Hd)}{p:List ik}{l:Hd}(b:vC f y w T i o h N p l)(m:fz y T S z0 y5 (aj S) y0 y6)(C:fB X w x k true (.pointer (some ⟨T,0,none⟩)) (.slice N.ao h.length N.cap) (.slice l.ao p.length l.cap))(K:ab [w,g] y X)(H:w<M)(G:g<M)(u:M<=f.heap.size)(v:M<=T)(r:∀a,z0=some ⟨a,0,none⟩->M<=a/\a<y.heap.size)(nS:∀a,y0=some ⟨a,0,none⟩->M<=a/\a<y.heap.size)(A:h.map (·.1)=(List.range (aj S).length).map (xK (aj S) (Qe S (aj S))))(j:pu (aj S) h ((List.range (aj S).length).map (oN S (aj S) (JH S (aj S)))) p (aj S).length):xD X w x k S M X.heap.size:=by
 have z:=K.size;have q:∀a,M<=a->a∉[w,g]:=fun a I F=>by simp at F;omega
 have D:∀a,N.blk=some a->M<=a/\a<X.heap.size:=fun a e=>⟨Q1 u (b.f1 a e),QW (b.o1.lt e) z⟩
 have E:∀a,l.blk=some a->M<=a/\a<X.heap.size:=fun a e=>⟨Q1 u (b.f2 a e),QW (b.o2.lt e) z⟩
 have B:∀c∈h,∀a,c.2.ao=some ⟨a,0,none⟩->M<=a/\a<X.heap.size:=fun c n a e=>⟨Q1 u ((b.q c n).2 a e).1,QW (b.ql c n a e) z⟩
 exact⟨T,z0,y5,y0,y6,h,N,p,l,{
  rv:=C
  db:=⟨K.get m.d (q T v),m.t.keptS K (fun a e=>q a (r a e).1),m.s.keptS K (fun a e=>q a (nS a e).1)⟩
  ps:=A
  fin:=j
  s1:=b.o1.Vf (fun a e=>K.block a (b.o1.lt e) (q a (D a e).1))
  s2:=b.o2.Vf (fun a e=>K.block a (b.o2.lt e) (q a (E a e).1))
  sq:=fun c n=>(b.q c n).1.keptS K (fun a e=>q a (B c n a e).1)
  nb:=⟨v,QW (ae m.d) z⟩
  nT:=fun a e=>⟨(r a e).1,QW (r a e).2 z⟩
  nS:=fun a e=>⟨(nS a e).1,QW (nS a e).2 z⟩
  n1:=D
  n2:=E
  nq:=B }⟩
def Qt(fs:Fs)(k v:Nat)(h:Hd)(f:pv)(c:Int)(w:World)(e:Ending)(w':World):Prop :=
 e=.returned (.tuple #[gU f,.int .i64 c])/\((c=0->∃lo,w.heap.size<=lo/\xD w' v fs h (cC fs k).1 lo w'.heap.size)/\(c≠0->∃p2 p3 p4,fB w' v fs h false p2 p3 p4))/\ab [v] w w'
theorem fB.keptV{on':Bool}(a:fB f w x k z2 i o D)(d:ab [w] f y)(c:y.heap[w]?=some (.cells #[.slice k.ao x.length k.cap,.bool on',z5,y7,y8] 85 (0,0))):fB y w x k on' z5 y7 y8 :=
 ⟨c,a.own.Vf (fun q b=>d.block q (a.own.lt b) (by simp;intro e;rw[e]at b;exact a.far b)),a.far,a.le⟩
theorem sC(h:∀j,j<x.length->(ak x j).size<=1024)(k:Nat):(ak x k).size<=1024:=by
 by_cases a:k<x.length
 ·exact h k a
 ·unfold ak;rw[QP,Rv (by omega)];show(0:Nat)<=1024;omega
theorem fB.aside(a:fB f w x k z2 i o D)(e:w≠T)(c:∀q,k.blk=some q->q≠T)(b:Nat)(u:Value):fB (f.setCell ⟨T,b,none⟩ u) w x k z2 i o D :=
 ⟨((ab.refl [T] f).setCell (Q0 (by simp)) _).get a.d (by simp;exact e),a.own.aside c b u,a.far,a.le⟩
theorem vn{e u0 u1 u2 u3:Value}(j:y.heap[w]?=some (.cells #[z5,y7,y8,e] 87 (0,0)))(d:fB y T x k z2 i o D)(l:T<w)(c:∀q,k.blk=some q->q<w)(h:ab [T] f y)(b:f.heap.size<=w) :
  ((((y.setCell ⟨w,0,none⟩ u0).setCell ⟨w,1,none⟩ u1).setCell ⟨w,2,none⟩ u2).setCell ⟨w,3,none⟩ u3).heap[w]?=some (.cells #[u0,u1,u2,u3] 87 (0,0))/\fB ((((y.setCell ⟨w,0,none⟩ u0).setCell ⟨w,1,none⟩ u1).setCell ⟨w,2,none⟩ u2).setCell ⟨w,3,none⟩ u3) T x k z2 i o D/\ab [T] f ((((y.setCell ⟨w,0,none⟩ u0).setCell ⟨w,1,none⟩ u1).setCell ⟨w,2,none⟩ u2).setCell ⟨w,3,none⟩ u3):=by
 refine⟨ah (ah (ah (ah j 0 u0) 1 u1) 2 u2) 3 u3,?_,(((h.setCell (QU b) _).setCell (QU b) _).setCell (QU b) _).setCell (QU b) _⟩;have a:∀q,k.blk=some q->q≠w:=fun q g=>by have:=c q g;omega
 exact(((d.aside (by omega) a _ _).aside (by omega) a _ _).aside (by omega) a _ _).aside (by omega) a _ _
theorem my(h:f.heap[w]?=some (.cells #[i,o,D,z5] 87 (0,0))) :
  (f.cell? ⟨w,0,none⟩=some i/\f.cell? ⟨w,1,none⟩=some o/\f.cell? ⟨w,2,none⟩=some D/\f.cell? ⟨w,3,none⟩=some z5)/\(f.frozen? ⟨w,0,none⟩=false/\f.frozen? ⟨w,1,none⟩=false/\f.frozen? ⟨w,2,none⟩=false/\f.frozen? ⟨w,3,none⟩=false)/\w<f.heap.size:=by
 refine⟨⟨?_,?_,?_,?_⟩,⟨am h 0,am h 1,am h 2,am h 3⟩,ae h⟩
 all_goals (rw[aa h];rfl)
theorem v7(f:H.length<=4)(d:∀j,j<H.length->(ak H j).size<=1024)(l:b<H.length)(i:((yn (cC H b).1 (aj (cC H b).1)).rule==0)=true)(c:((cC H b).2.rule==0)=true):fE H b=cY/\∀q,q<(cC H b).1.length->bh (cC H b).1 (aj (cC H b).1) q=0:=by
 obtain⟨e,g⟩:=v6 H b f d l
 have k:(fE H b).1=0:=by
  unfold fE;rw[QS (by rw[i];simp)];exact TQ c
 refine⟨?_,(g (by rw[e,k];rfl)).1.u⟩
 have m:(cC H b).2=jf:=by
  unfold cC at c ⊢
  split
  ·next a =>
   rw[QV a]at c;unfold eu at a
   cases h:(pr H b).getLast? with
   | none=>rw[h]at a;cases a
   | some t =>
    rw[h]at a c;simp only[UN]at c;simp only at a;rw[c]at a
    cases a
  ·rfl
 unfold fE;rw[QS (by rw[i];simp),m];rfl
theorem xX(h:Hd)(t:Bool)(l r o:Value)(n:ByteArray)(w:World)(f:fB w L H h t l r o)(J:bF H n<0) :
  Calls prog 37 #[.pointer (some ⟨L,0,none⟩),.string n] w fun e u=>e=.returned (.tuple #[gU cY,.int .i64 5])/\ab [] w u:=by
 obtain⟨W,i⟩:∃W,Hid (w.alloc (.cells #[.int .i64 0,.string ⟨#[]⟩,.int .i64 0,.int .i64 0] 87)=W):=⟨_,rfl⟩
 have b:Hid (ab [] w W):=by show ab [] w W;rw[<-i.out];exact(ab.refl [] _).alloc _
 have k:Hid (W.heap[w.heap.size]?=some (.cells #[.int .i64 0,.string ⟨#[]⟩,.int .i64 0,.int .i64 0] 87 (0,0))):=by show _=_;rw[<-i.out];exact QR _ _
 have a:=hI (f.Va b.out);have j:=hI (mt H h.ao h.cap n W (by have:=f.le;omega) a.out.own.srcFi);have C:W.cell? ⟨L,0,none⟩=some (.slice h.ao H.length h.cap):=by rw[aa a.out.d];rfl
 have E:=ae a.out.d;obtain⟨⟨D,A,M,z⟩,⟨B,I,N,G⟩,K⟩:=my k.out;have c:Hid (L<w.heap.size/\∀q,h.blk=some q->q<w.heap.size):=⟨ae f.d,fun q s=>f.own.lt s⟩;clear f;go_enter func37,ntmps37
 go_upto_region 1 with fail
 rw[i.out];go_wp2_with (go_at_call 35;refine QT j.out ?_;rintro e F ⟨rfl,g⟩;rw[g];clear g);obtain⟨m,-,-⟩:=vn (u0:=.int .i64 0) (u1:=.string ⟨#[]⟩) (u2:=.int .i64 0) (u3:=.int .i64 0) k.out a.out c.out.1 c.out.2 (oA b.out) (QQ _);obtain⟨⟨p,x,y,v⟩,-,-⟩:=my m;exact QX (v:=.tuple #[.agg #[.int .i64 0,.string ⟨#[]⟩,.int .i64 0,.int .i64 0],.int .i64 5]) (by simp[results,results37,go_sem,p,x,y,v]) rfl ⟨rfl,(((b.out.setCell (QU (QQ _)) _).setCell (QU (QQ _)) _).setCell (QU (QQ _)) _).setCell (QU (QQ _)) _⟩
theorem AM(c:Fs)(h:Hd)(on:Bool)(p2 p3 p4:Value)(b2:ByteArray)(w:World)(hR:fB w n c h on p2 p3 p4)(hf:bF c b2=(b:Int))(hk:b<c.length)(Q:∀j,j<c.length->(ak c j).size<=1024) :
  Calls prog 37 #[.pointer (some ⟨n,0,none⟩),.string b2] w fun e w'=>Qt c b n h (fE c b) (if((fE c b).1==0)=true then 0 else 6) w e w':=by
 unfold Qt;have an:=hR.le;obtain⟨ck,l⟩:=h;obtain⟨gf,ai,cf,-⟩:=hR.own.srcFi.2 b hk;replace ai:ck=some ⟨gf,0,none⟩:=ai;subst ai;obtain⟨W,HW⟩:∃W,Hid (w.alloc (.cells #[.int .i64 0,.string ⟨#[]⟩,.int .i64 0,.int .i64 0] 87)=W):=⟨_,rfl⟩
 have a1:Hid (ab [] w W):=by show ab [] w W;rw[<-HW.out];exact(ab.refl [] _).alloc _
 have BF:Hid (W.heap[w.heap.size]?=some (.cells #[.int .i64 0,.string ⟨#[]⟩,.int .i64 0,.int .i64 0] 87 (0,0))):=by show _=_;rw[<-HW.out];exact QR _ _
 have x:=hI (hR.Va a1.out);have bl:=hI (mt c (some ⟨gf,0,none⟩) l b2 W (by omega) x.out.own.srcFi);rw[hf]at bl;have v0:W.cell? ⟨n,0,none⟩=some (.slice (some ⟨gf,0,none⟩) c.length l):=by rw[aa x.out.d];rfl
 have v1:W.cell? ⟨n,1,none⟩=some (.bool on):=by rw[aa x.out.d];rfl
 have e1:=am x.out.d 1;have vz:=ae x.out.d;have k:Hid (n<w.heap.size/\∀q,(⟨some ⟨gf,0,none⟩,l⟩:Hd).blk=some q->q<w.heap.size):=⟨ae hR.d,fun q hq=>hR.own.lt hq⟩;obtain⟨C,X⟩:∃C,Hid (W.setCell ⟨n,1,none⟩ (.bool false)=C):=⟨_,rfl⟩
 have K:Hid (fB C n c ⟨some ⟨gf,0,none⟩,l⟩ false p2 p3 p4):=by show fB _ _ _ _ _ _ _ _;rw[<-X.out];exact x.out.off
 have az:Hid (ab [n] w C):=by show ab _ _ _;rw[<-X.out];exact(oA a1.out).setCell (Q0 (by simp)) _
 have bo:Hid (C.heap[w.heap.size]?=some (.cells #[.int .i64 0,.string ⟨#[]⟩,.int .i64 0,.int .i64 0] 87 (0,0))):=by
  show _=_
  rw[<-X.out];exact((ab.refl [n] _).setCell (Q0 (by simp)) _).get BF.out (by have:=k.out.1;simp;omega)
 have R:=hI (Ih c gf l b C an (sC Q) hk K.out.own.srcFi (K.out.own.lt rfl));have cl:C.cell? ⟨n,0,none⟩=some (.slice (some ⟨gf,0,none⟩) c.length l):=by rw[aa K.out.d];rfl
 have b3:=ae K.out.d;have S:=hI (BD c b (sC Q));have B:=hI (Ig c b an (sC Q) hk);have N:=hI (v7 c b an Q hk);have A:Hid (fE c b=if((yn (cC c b).1 (aj (cC c b).1)).rule==0)=false then Lh (yn (cC c b).1 (aj (cC c b).1)) else Lh (cC c b).2):=rfl;obtain⟨f,Hf⟩:∃f,Hid (fE c b=f):=⟨_,rfl⟩
 rw[Hf.out]at A N ⊢;obtain⟨cc,P⟩:∃cc,Hid ((if(f.1==0)=true then(0:Int) else 6)=cc):=⟨_,rfl⟩
 rw[P.out];obtain⟨⟨T,t⟩,ca⟩:∃Tt,Hid (cC c b=Tt):=⟨_,rfl⟩
 rw[ca.out]at R S B N A ⊢;simp only at R S B N A ⊢;obtain⟨u,Hu⟩:∃u,Hid (yn T (aj T)=u):=⟨_,rfl⟩
 rw[Hu.out]at N A;have co:¬(b:Int)<0:=by omega
 have a6:Hid (∀i,(tS T i).size<=1073741824):=fun i=>by
  unfold tS;rw[QP]
  cases e:T[i]? with
  | none=>show(0:Nat)<=_;omega
  | some t=>have:=(S.out t (R2 e)).1;show t.s.size<=_;omega
 clear hR cf hf;go_enter func37,ntmps37
 go_upto_region 1 with fail
 rw[HW.out]
 go_upto_region 5 with (go_at_call 35;refine QT bl.out ?_;rintro e w9 ⟨rfl,bs⟩;rw[bs];clear bs)
 rw[X.out];clear v0 v1 e1 vz;obtain⟨ts,tr,tf,tl,tc⟩:=t;obtain⟨us,ur,uf,ul,uc⟩:=u;simp only at R
 go_upto_region 6 with (go_at_call 54;refine QT R.out ?_;rintro e w7 ⟨aT,cT,rfl,sT,k7,n7⟩)
 obtain⟨D,F⟩:∃D,Hid (w7.alloc (.cells #[.int .i64 tr,.string tf,.int .i64 tl,.int .i64 tc] 87)=D):=⟨_,rfl⟩
 have bk:Hid (ab [] C D):=by show ab _ _ _;rw[<-F.out];exact k7.alloc _
 have b5:Hid (D.heap[w7.heap.size]?=some (.cells #[.int .i64 tr,.string tf,.int .i64 tl,.int .i64 tc] 87 (0,0))):=by show _=_;rw[<-F.out];exact QR _ _
 have V:Hid (w7.heap.size<=D.heap.size/\C.heap.size<=D.heap.size):=⟨by rw[<-F.out];simp,bk.out.size⟩;have a0:=hI n7;have b6:=hI (LI T aT cT D (li.Va sT (by rw[<-F.out];exact(ab.refl [] _).alloc _)) (by have:=B.out;omega) a6.out);rw[F.out];clear sT k7 cl b3 n7
 go_upto_region 7 with (go_at_call 55;refine QT b6.out ?_;rintro e w9 ⟨rfl,aS,cS,d9,k9,n9⟩)
 have ax:=hI (wb D.heap.size T aT cT (aj T) aS cS w9 d9 (by have:=B.out;omega) (Oq T (by have:=B.out;omega)) a6.out);rw[Hu.out]at ax;simp only at ax;have a7:Hid (∀g,aT=some ⟨g,0,none⟩->C.heap.size<=g/\g<w9.heap.size):=fun g M=>⟨(a0.out g M).1,QW (a0.out g M).2 (Q1 V.out.1 k9.size)⟩
 have be:Hid (∀g,aS=some ⟨g,0,none⟩->C.heap.size<=g/\g<w9.heap.size):=fun g M=>⟨Q1 V.out.2 (n9 g M).1,(n9 g M).2⟩
 have b1:=hI (bk.out.trans k9);have b0:=hI (k9.get b5.out (by simp));have bw:=hI k9.size;have ch:=hI d9;clear d9 k9 n9
 go_upto_region 8 with (go_at_call 56;refine QT ax.out ?_;rintro e bc ⟨rfl,br⟩)
 obtain⟨o,G⟩:∃o,Hid (bc.alloc (.cells #[.int .i64 ur,.string uf,.int .i64 ul,.int .i64 uc] 87)=o):=⟨_,rfl⟩
 have a2:Hid (o.heap[bc.heap.size]?=some (.cells #[.int .i64 ur,.string uf,.int .i64 ul,.int .i64 uc] 87 (0,0))):=by show _=_;rw[<-G.out];exact QR _ _
 have v:Hid (ab [] w9 o):=by show ab _ _ _;rw[<-G.out];exact br.alloc _
 have L:=hI (b1.out.trans v.out);have bf:=hI (fz.Va ch.out v.out);have cj:=hI (v.out.get b0.out (by simp));have a:=hI (K.out.Va L.out);have U:=hI (L.out.get bo.out (by simp));have ap:=hI (az.out.trans (oA L.out));rw[G.out];clear br;obtain⟨⟨u0,u1,u2,u3⟩,-,uz⟩:=my a2.out;obtain⟨⟨t0,t1,t2,t3⟩,-,tz⟩:=my cj.out;obtain⟨⟨g0,g1,g2,g3⟩,⟨f0,f1,f2,f3⟩,wz⟩:=my U.out
 cases hu:(ur==0)
 ·have HX:Hid (f=(ur,⟨uf,ul,uc⟩)):=by show _=_;rw[A.out];exact QV hu
  have HC:Hid (cc=6):=by show _=_;rw[<-P.out,HX.out];exact QS (fun q=>by have Y:(ur==0)=true:=q;rw[hu]at Y;cases Y)
  go_wp2;obtain⟨B1,R1,K1⟩:=vn (u0:=.int .i64 ur) (u1:=.string uf) (u2:=.int .i64 ul) (u3:=.int .i64 uc) U.out a.out k.out.1 k.out.2 ap.out (QQ _);obtain⟨⟨c0,c1,c2,c3⟩,-,-⟩:=my B1;exact QX (v:=.tuple #[.agg #[.int .i64 ur,.string uf,.int .i64 ul,.int .i64 uc],.int .i64 6]) (by simp[results,results37,go_sem,c0,c1,c2,c3]) rfl (by rw[HC.out,HX.out];exact⟨rfl,⟨(fun q=>by cases q),fun _=>⟨_,_,_,R1⟩⟩,K1⟩)
 ·cases ht:(tr==0)
  ·have HX:Hid (f=(tr,⟨tf,tl,tc⟩)):=by show _=_;rw[A.out];exact QS (fun q=>by have Y:(ur==0)=false:=q;rw[hu]at Y;cases Y)
   have HC:Hid (cc=6):=by show _=_;rw[<-P.out,HX.out];exact QS (fun q=>by have Y:(tr==0)=true:=q;rw[ht]at Y;cases Y)
   go_wp2;obtain⟨B1,R1,K1⟩:=vn (u0:=.int .i64 tr) (u1:=.string tf) (u2:=.int .i64 tl) (u3:=.int .i64 tc) U.out a.out k.out.1 k.out.2 ap.out (QQ _);obtain⟨⟨c0,c1,c2,c3⟩,-,-⟩:=my B1;exact QX (v:=.tuple #[.agg #[.int .i64 tr,.string tf,.int .i64 tl,.int .i64 tc],.int .i64 6]) (by simp[results,results37,go_sem,c0,c1,c2,c3]) rfl (by rw[HC.out,HX.out];exact⟨rfl,⟨(fun q=>by cases q),fun _=>⟨_,_,_,R1⟩⟩,K1⟩)
  ·obtain⟨bg,af⟩:=N.out hu ht
   have a5:=hI af;have HX:=hI bg;have HC:Hid (cc=0):=by show _=_;rw[<-P.out,HX.out];rfl
   clear bg af;have x2:o.cell? ⟨n,2,none⟩=some p2:=by rw[aa a.out.d];rfl
   have y2:=am a.out.d 2;have vz:=ae a.out.d;have O:=ah a.out.d 2 (.pointer (some ⟨D.heap.size,0,none⟩));obtain⟨z,H⟩:∃z,Hid (o.setCell ⟨n,2,none⟩ (.pointer (some ⟨D.heap.size,0,none⟩))=z):=⟨_,rfl⟩
   rw[H.out]at O;have m:Hid (ab [n] o z):=by show ab _ _ _;rw[<-H.out];exact(ab.refl [n] _).setCell (Q0 (by simp)) _
   have Z:=hI (fz.off bf.out a.out.d m.out);have bj:=hI (m.out.get U.out (by have:=k.out.1;simp;omega));have ac:=hI (fB.keptV (on':=false) a.out m.out O);have bx:=hI (Em n D.heap.size T aT cT aS cS _ _ _ _ _ _ z O Z.out B.out S.out a5.out);clear O
   go_upto_region 13 with fail
   rw[H.out];clear x2 y2 vz u0 u1 u2 u3 uz t0 t1 t2 t3 tz g0 g1 g2 g3 f0 f1 f2 f3 wz
   go_upto_region 14 with (go_at_call 57;refine QT bx.out ?_;rintro e I ⟨PS,j1,j2,RS,rfl,bp,ad,jw⟩)
   have a3:=hI (jw.kept.get bj.out (by have:=k.out.1;simp;omega));have y:=jw.d;have E:=jw.kept;have ba:=hI (fB.keptV (on':=false) ac.out E y);have bT:=(show Hid _ from(ap.out.trans m.out).trans E);have b4:=hI jw;have cb:=hI bp;have bz:=hI ad;have a4:=hI (fz.off Z.out ac.out.d E);have ar:Hid (w9.heap.size<=z.heap.size/\z.heap.size<=I.heap.size/\D.heap.size<=w9.heap.size):=⟨Q1 v.out.size m.out.size,E.size,bw.out⟩;have x1:I.cell? ⟨n,1,none⟩=some (.bool false):=by rw[aa y];rfl
   have y1:=am y 1;have vz:=ae y;have ao:=ah y 1 (.bool true);obtain⟨al,J⟩:∃al,Hid (I.setCell ⟨n,1,none⟩ (.bool true)=al):=⟨_,rfl⟩
   rw[J.out]at ao;have r:Hid (ab [n] I al):=by show ab _ _ _;rw[<-J.out];exact(ab.refl [n] _).setCell (Q0 (by simp)) _
   have bd:=hI (fB.keptV (on':=true) ba.out r.out ao);have ag:=hI (r.out.get a3.out (by have:=k.out.1;simp;omega));have bv:=hI (bT.out.trans r.out);clear jw bp ad y E ao
   go_upto_region 15 with fail
   rw[J.out];clear x1 y1 vz;obtain⟨⟨g0,g1,g2,g3⟩,⟨f0,f1,f2,f3⟩,wz⟩:=my ag.out;go_wp2;obtain⟨B1,R1,K1⟩:=vn (u0:=.int .i64 0) (u1:=.string ⟨#[]⟩) (u2:=.int .i64 0) (u3:=.int .i64 0) ag.out bd.out k.out.1 k.out.2 bv.out (QQ _);have KX:ab [n,w.heap.size] I _:=((((r.out.mono (S':=[n,w.heap.size]) (fun q hq _=>by rw[Q8.1 hq];exact Rm)).setCell (p:=⟨w.heap.size,0,none⟩) (Q0 (by simp)) (.int .i64 0)).setCell (p:=⟨w.heap.size,1,none⟩) (Q0 (by simp)) (.string ⟨#[]⟩)).setCell (p:=⟨w.heap.size,2,none⟩) (Q0 (by simp)) (.int .i64 0)).setCell (p:=⟨w.heap.size,3,none⟩) (Q0 (by simp)) (.int .i64 0);obtain⟨⟨c0,c1,c2,c3⟩,-,-⟩:=my B1;exact QX (v:=.tuple #[.agg #[.int .i64 0,.string ⟨#[]⟩,.int .i64 0,.int .i64 0],.int .i64 0]) (by simp[results,results37,go_sem,c0,c1,c2,c3]) rfl (by rw[HC.out,HX.out];exact⟨rfl,⟨fun _=>⟨C.heap.size,az.out.size,Me b4.out a4.out R1 KX (QW k.out.1 az.out.size) (ae bo.out) (by have:=V.out;have:=ar.out;omega) V.out.2 (fun g M=>⟨(a7.out g M).1,by have:=(a7.out g M).2;have:=ar.out;omega⟩) (fun g M=>⟨(be.out g M).1,by have:=(be.out g M).2;have:=ar.out;omega⟩) cb.out bz.out⟩,fun q=>absurd rfl q⟩,K1⟩)
theorem DW(h:b<n):aE (H.take n) b=aE H b/\ak (H.take n) b=ak H b:=by
 unfold aE ak;rw[QP,Ti,QV h,QP];exact⟨rfl,rfl⟩
theorem mU.take(h:mU f z0 w x)(k:Nat)(c:k<=x.length):mU f z0 w (x.take k):=by
 have b:(x.take k).length=k:=by rw[RO];omega
 refine⟨by rw[b];exact Q1 c h.1,fun j a=>?_⟩;rw[b]at a;obtain⟨d,e⟩:=DW x k j a;rw[d,e];exact h.2 j (by omega)
theorem Lc(h:mU f (some ⟨w,0,none⟩) T x)(j:Nat)(u:Value)(a:(qJ x)[j]?=some u):f.cell? ⟨w,j,none⟩=some u:=by
 have i:j<x.length*2:=by
  rw[<-vm];exact(Q7.1 a).1
 obtain⟨k,e,-,c,b⟩:=h.2 (j / 2) (by omega)
 cases e
 obtain⟨d,g⟩:=v8 x (j / 2) (by omega)
 rcases UA j with e | e
 ·rw[show j / 2*2=j by omega]at c d
  rw[d]at a;rw[c,<-a]
 ·rw[show j / 2*2+1=j by omega]at b g
  rw[g]at a;rw[b,<-a]
def Pz(w:World)(v:Nat)(h:Hd)(fs:Fs)(p2 p3 p4:Value)(r:Int)(w':World):Prop:=(r=0->∃h',fB w' v fs h' false p2 p3 p4/\ab (v :: h.blk.toList) w w'/\∀b,h'.blk=some b->h.blk=some b∨w.heap.size<=b)/\(r≠0->ab [] w w')
theorem Pz.stay{r:Int}(a:r≠0)(b:ab [] f y):Pz f w k x i o D r y:=⟨fun e=>absurd e a,fun _=>b⟩
theorem fB.newRow{b:Fs}(a:fB f w x k z2 i o D)(p:ab [] f y)(h:aw y N (cr b))(n:∀q,N.blk=some q->f.heap.size<=q)(s:b.length<=4)(j:T=b.length):fB (y.setCell ⟨w,0,none⟩ (.slice N.ao T N.cap)) w b N z2 i o D:=by
 have l:=p.get a.d (by simp);have t:=ae a.d;have c:N.blk≠some w:=fun m=>by have:=n w m;omega
 have r:ab [w] y (y.setCell ⟨w,0,none⟩ (.slice N.ao T N.cap)):=(ab.refl _ _).setCell (Q0 (by simp)) _;subst j;exact⟨by rw[ah l];rfl,h.Vf (fun q g=>r.block q (h.lt g) (by simp;intro e;exact c (by rw[<-e];exact g))),c,s⟩
theorem Et(a:Fs)(h:Hd)(on:Bool)(p2 p3 p4:Value)(E:Option Addr)(i:Nat)(w:World)(hR:fB w L H h on p2 p3 p4)(hS:mU w E i a)(hn:E=none->a.length=0/\i=0)(ha:∀A,E=some A->∃g,A=⟨g,0,none⟩)(Q:∀j,j<a.length->(aE a j).size<=1073741824/\(ak a j).size<=1073741824) :
  Calls prog 31 #[.pointer (some ⟨L,0,none⟩),.slice E a.length i] w fun e p=>e=.returned (.int .i64 (dy a))/\Pz w L h (jt H a) p2 p3 p4 (dy a) p:=by
 have HR:=hI hR
 by_cases h4:4<a.length
 ·have S:Hid (dy a=1):=by show _=_;unfold dy;rw[QV h4]
  rw[S.out];have az:(4:Int)<(a.length:Int):=by omega
  clear hR;go_enter func31,ntmps31;go_wp2;go_ret;exact⟨rfl,Pz.stay (by decide) (ab.refl _ _)⟩
 ·have S:Hid (dy a=dJ (Dv a) a.length):=by show _=_;unfold dy;rw[QS h4]
  obtain⟨r,Hr⟩:∃r,Hid (dy a=r):=⟨_,rfl⟩
  rw[Hr.out]at S ⊢;have az:¬(4:Int)<(a.length:Int):=by omega
  have W:=hI hS;have HN:=hI hn;have a0:=hI ha;have J:=hI Q;obtain⟨iF,ax,R,F,G⟩:=Rd zX;clear hR hS hn ha Q;go_enter func31,ntmps31;go_wp2
  go_loopg [5] a.length (fun g iv wr=>∃k:Nat,k<=a.length/\g=a.length-k/\iv=.int .i64 k/\Hid (dJ (Dv a) k=0)/\Hid (ab [] w wr))
  case atStart=>exact⟨0,by omega,rfl,rfl,rfl,ab.refl _ _⟩
  case round =>
   obtain⟨k,hk,hg,rfl,HZ,x⟩:=hrel
   by_cases v:k<a.length
   ·have a3:(k:Int)<(a.length:Int):=by omega
    have a2:(0:Int)<=(k:Int):=by omega
    have a4:=W.out.1;obtain⟨y,rfl,t,c0,c1⟩:=(mU.Va W.out x.out).2 k v;have HC:Hid (∀p,ab [] wr p->p.cell? ⟨y,k*2,none⟩=some (.string (aE a k))/\p.cell? ⟨y,k*2+1,none⟩=some (.string (ak a k))/\y<p.heap.size):=fun p kw=>⟨by rw[Q5 (kw.block y t (by simp))];exact c0,by rw[Q5 (kw.block y t (by simp))];exact c1,QW t kw.size⟩
    have C:Hid (∀s,ab [] wr s->Calls prog 35 #[.slice (some ⟨y,0,none⟩) k i,.string (aE a k)] s fun e p=>e=.returned (.int .i64 (bF (a.take k) (aE a k)))/\p=s):=fun s kx=>by
     have hl:(a.take k).length=k:=by rw[RO];omega
     have:=mt (a.take k) (some ⟨y,0,none⟩) i (aE a k) s (by omega) (mU.take (mU.Va W.out (x.out.trans kx)) k hk);rw[hl]at this;exact this
    have V:Hid (∀s,Calls prog 34 #[.string (aE a k),.string (ak a k)] s fun e p=>e=.returned (.int .i64 (cJ (aE a k) (ak a k)))/\p=s):=fun s=>BC _ _ s (J.out k v).1 (by have:=(J.out k v).2;omega)
    have o:Hid (Dv a k=if(cJ (aE a k) (ak a k)==0)=false then cJ (aE a k) (ak a k) else if 0<=bF (a.take k) (aE a k) then 4 else 0):=rfl;have M:Hid ((Dv a k==0)=false->r=Dv a k):=fun q=>by rw[S.out];exact oq HZ.out q v
    have aS:Hid (Dv a k=0->dJ (Dv a) (k+1)=0):=fun q=>by rw[dJ,HZ.out];exact q
    generalize aE a k=nm at *;generalize ak a k=dt at *;obtain⟨P,Z⟩:∃P,Hid (cJ nm dt=P):=⟨_,rfl⟩
    rw[Z.out]at V o;obtain⟨Y,ap⟩:∃Y,Hid (bF (a.take k) nm=Y):=⟨_,rfl⟩
    rw[ap.out]at C o
    go_upto_region 6 with fail
    go_region_with (go_at_call 34;refine(V.out _).mono ?_;rintro e z ⟨rfl,aT⟩)
    all_goals
     subst aT;obtain⟨z,H9⟩:∃z,Hid (wr.drew=z):=⟨_,rfl⟩
     rw[H9.out];have f:Hid (ab [] wr z):=by show ab _ _ _;rw[<-H9.out];exact(ab.refl [] wr).drew
     clear c0 c1 t
     cases c:(P==0)
     ·rw[c,QV rfl]at o
      have l:=hI (M.out (by rw[o.out];exact c));rw[o.out]at l;have an:(P != 0)=true:=by unfold bne;rw[c];rfl
      go_wp2;go_ret;exact⟨QM l.out.symm,Pz.stay (by rw[l.out];exact fun q=>by rw[q]at c;cases c) (x.out.trans f.out)⟩
     ·rw[c,QS (by simp)]at o
      have an:(P != 0)=false:=by unfold bne;rw[c];rfl
      obtain⟨d0,d1,d2⟩:=HC.out z f.out
      by_cases K:0<=Y
      ·rw[QV K]at o
       have l:=hI (M.out (by rw[o.out];rfl));rw[o.out]at l
       go_upto_region 9 with fail
       go_region_with (go_at_call 35;refine(C.out _ (by exact f.out.drew)).mono ?_;rintro e w8 ⟨rfl,D⟩)
       all_goals
        subst D;have B:Hid (ab [] w z.drew):=(x.out.trans f.out).drew;go_wp2;go_ret;exact⟨QM l.out.symm,Pz.stay (by rw[l.out];decide) B.out⟩
      ·rw[QS K]at o
       have HM:=hI (aS.out o.out)
       go_upto_region 9 with fail
       go_region_with (go_at_call 35;refine(C.out _ (by exact f.out.drew)).mono ?_;rintro e w8 ⟨rfl,D⟩)
       all_goals
        subst D;have B:Hid (ab [] w z.drew):=(x.out.trans f.out).drew;go_wp2
        go_roundg (a.length-(k+1))
        case measure=>omega
        case rel=>exact⟨k+1,by omega,rfl,by go_num,HM,B⟩
   ·have e:k=a.length:=by omega
    subst e;have l:Hid (r=0):=by show _=_;rw[S.out];exact HZ.out
    have a5:¬(a.length:Int)<(a.length:Int):=by omega
    have U:=hI (HR.out.Va x.out);have al:aw wr ⟨none,0⟩ (cr []):=QY _ _ _ _;have ac:=hI (mU.Va W.out x.out)
    have ar:Hid (∀A,E=some A->∀j u,(qJ a)[j]?=some u->wr.cell? (A.add j)=some u):=fun A e j u hu=>by
     obtain⟨g,rfl⟩:=a0.out A e;rw[bL];exact Lc (by rw[<-e];exact ac.out) j u hu
    have ai:Hid ((cr ([]:Fs)).n+a.length<=1000000000):=by show 0+a.length<=_;omega
    have a1:Hid (∀m:Nat,(cr ([]:Fs)).n+m=m):=fun m=>SG m
    go_upto_region 12 with fail
    go_wp2_with (at_builtin;refine ed _ rfl (.const (.slice none 0 0)) (.tmp 43) 33 rfl iF (.agg #[.string ⟨#[]⟩,.string ⟨#[]⟩]) 32 ⟨none,0⟩ (cr []) underlying33 ax R F G rfl Up rfl al E a.length i (qJ a) rfl (vm a) HN.out ar.out (Gh a) ai.out (by omega) ?_;intro h5 w5 N O;have K5:ab [] wr w5:=(O.kept.mono (by simp[Hd.blk]));have T:=K5.get U.out.d (by simp);have v0:w5.cell? ⟨L,0,none⟩=some (.slice h.ao H.length h.cap):=(by rw[aa T];rfl);have v1:w5.cell? ⟨L,1,none⟩=some (.bool on):=(by rw[aa T];rfl);have e0:=am T 0;have e1:=am T 1;have vz:=ae T);go_ret
    have er:(⟨(cr []).e,(cr []).size,(cr []).n+a.length,(cr []).xs++qJ a⟩:dN)=cr a:=by
     show dN.mk _ _ (0+a.length) ([]++qJ a)=_
     rw[SG];rfl
    rw[er]at N
    have I:∀q,h5.blk=some q->wr.heap.size<=q:=by
     intro q X
     rcases O.blk with e | ⟨g,e,hg⟩
     ·rw[e]at X;cases X
     ·rw[e]at X;cases X;exact hg
    have af:=(U.out.newRow K5 N I (by omega) (a1.out a.length)).off;have ag:=hI (yM (fs0:=H) (Hr.out.trans l.out));exact⟨QM l.out.symm,by rw[ag.out];exact⟨fun _=>⟨h5,af,(((x.out.trans K5).mono (by simp)).setCell (Q0 (by simp)) _).setCell (Q0 (by simp)) _,fun b hb=>QU (Q1 x.out.size (I b hb))⟩,fun q=>absurd l.out q⟩⟩
end Go.Proofs.YtpddjjabfbfifaaGreat

import Derived.Deep.CutRange
import Derived.Deep.CutBlock
import Derived.Test.YtnbalopedcgpcaaGreatG23
namespace Go.Proofs.YtnbalopedcgpcaaGreat
open Go.RowKit Tryz
open Value renaming int->Xx,string->Xy,slice->Xz,pointer->XA
open Obj renaming cells->XE
open IntKind renaming i64->XF
open Ending renaming returned->XH
open World renaming cell?->XI
open Option renaming none->XJ,some->XK
open Bool renaming true->XL,false->XM
open Go.RowKit renaming Hid->XN
open Go renaming Calls->XO,World->XP,Value->XQ
set_option maxHeartbeats 0
variable{w:Db}{z2:ByteArray->Prop}{T:ByteArray}{f S I:XP}{l x a o:Nat}{M:XQ}{v:List Ex}{y:Hd}{H g:Nat->Hd}{d D:List ByteArray}{m:Program}{s:Code}{z0:Act->XP->Prop}{z3:Exit->Act->XP->Prop}{z1:Act}(n:ByteArray)(N:Nat)(b:ByteArray)(L:St)
theorem Vr.label(V:Vr w)(x:ByteArray)(a:w.Um=[]):Vr (bj w x).2:=by
 unfold bj;split
 ·exact V
 ·split
  ·exact V
  ·split
   ·exact V
   ·exact V.kd rfl rfl rfl rfl rfl rfl rfl a
theorem Vr.openB(V:Vr w)(t:w.Um=[]):Vr { w with blocks:=w.blocks++[(w.Uv.length,w.Uy.length)],rbl:=w.rbl++[w.UD.length] }:=by
 have o:=V.len;refine⟨V.cv,V.av,V.typ,V.tv,V.nd,by simp[o],?_,?_,fun _ x f=>?_,fun _ x f=>?_,fun _ i x f=>?_,fun _ x f=>?_,V.st,V.ds,V.fl,V.til,V.nest⟩
 ·intro i p b a d;simp only at a d ⊢;by_cases l:i<w.blocks.length
  ·rw[PR l]at a;rw[PR (by omega)]at d;exact V.blk i p b a d
  ·have:=(Qc.1 a).1;rw[Qa,Ra]at this;have e:i=w.blocks.length:=by omega
   subst e;rw[Qb (PQ _),Rl]at a;rw[o,Qb (PQ _),Rl]at d;have q:=Qz a;have k:=Qz d;subst q k;refine⟨PQ _,PQ _,?_⟩;rw[QJ,QJ];exact V.typ.symm
 ·intro i j b c m a d;simp only at a d;have r:=(Qc.1 d).1;rw[Qa,Ra]at r;by_cases n:j<w.rbl.length
  ·rw[PR n]at d;rw[PR (by omega)]at a;exact V.ord i j b c m a d
  ·have e:j=w.rbl.length:=(by omega);subst e;rw[Qb (PQ _),Rl]at d;have k:=Qz d;subst k;by_cases l:i<w.rbl.length
   ·rw[PR l]at a;have s:i<w.blocks.length:=(by omega);exact(V.blk i _ b (PJ s) a).1
   ·have e:i=w.rbl.length:=(by omega);subst e;rw[Qb (PQ _),Rl]at a;have k:=Qz a;omega
 all_goals (simp only[t]at f;cases f)
theorem Vr.first(V:Vr w)(x:ByteArray)(a:w.Um=[]):Vr (aA w x).2:=by
 unfold aA;split
 ·exact V.openB a
 ·split
  ·split
   ·exact V
   ·next p d =>
    unfold dS cL;split
    ·next f =>
     have c:w.rbl=[]:=List.getLast?_eq_none_iff.1 f;have e:=V.len;rw[c]at e;have:w.blocks=[]:=Ql e;rw[this]at d;cases d
    ·next b c=>exact V.close d c a
  ·split
   ·split
    ·exact V
    ·exact V.kd rfl rfl rfl rfl rfl rfl rfl a
   ·split
    ·exact V.kd rfl rfl rfl rfl rfl rfl rfl a
    ·split
     ·exact V.kd rfl rfl rfl rfl rfl rfl rfl a
     ·split
      ·exact V
      ·exact V.label x a
theorem Vr.keyword(V:Vr w)(x:ByteArray)(a:w.Um=[]):Vr (aN w x).2:=by
 unfold aN
 repeat' split
 all_goals first | exact V | exact V.kd rfl rfl rfl rfl rfl rfl rfl a
theorem IT(l:List ByteArray):∀v x,x∈bS v l ↔ x∈v∨x∈l:=by
 induction l with
 | nil=>intro v x;simp[bS]
 | cons y r b =>
  intro v x;have e:bS v (y :: r)=bS (if aM v y=XL then v else v++[y]) r:=rfl;rw[e,b];split
  ·next h =>
   rw[gj]at h;simp only[List.mem_cons];constructor
   ·rintro (a | a);exact P0 a;exact P7 (P7 a)
   ·rintro (a | rfl | a);exact P0 a;exact P0 h;exact P7 a
  ·rw[Qo,Qn,Q5,or_assoc]
theorem Vr.put{d':Db}(V:Vr w)(p:Pl)(hl:dX w<=w.Um.length)(P:d'.Uo=w.Uo)(t:d'.Up=w.Up)(U:d'.Uv=w.Uv)(W:d'.Uy=(dh w).Uy)(Q:d'.blocks=w.blocks)(y:d'.UD=w.UD++[⟨w.kind,w.label,w.Um,w.Ux,p,0⟩])(C:d'.rbl=w.rbl)(h:d'.Um=[]):Vr d':=by
 have z:d'.Uy=w.Uy++tm [⟨w.kind,w.label,w.Um,w.Ux,p,0⟩]:=by
  rw[W];unfold dh tm;by_cases c:w.kind=2
  ·have l2:dX w=2:=(by unfold dX;rw[PZ (P7 (by rw[c];rfl))]);rw[PZ ⟨by rw[c];rfl,by omega⟩,QO];unfold pi;rw[PZ ⟨c,rfl⟩];rfl
  ·rw[PV (by rintro ⟨h,-⟩;exact c (by simpa using h)),QO];unfold pi;rw[PV (by rintro ⟨h,-⟩;exact c h)];simp
 have o:w.kind=2->∃v,w.Um[1]?=XK v/\AI ⟨w.kind,w.label,w.Um,w.Ux,p,0⟩=v/\tm [⟨w.kind,w.label,w.Um,w.Ux,p,0⟩]=[v]/\v∈w.Up/\v∉w.Uy:=fun c=>by
  have l2:dX w=2:=by unfold dX;rw[PZ (P7 (by rw[c];rfl))]
  have X:1<w.Um.length:=by omega
  have g:=PJ X;have R:AI ⟨w.kind,w.label,w.Um,w.Ux,p,0⟩=w.Um[1]:=by unfold AI;rw[PK,g];rfl
  refine⟨_,g,R,?_,(V.c2 c 1 _ g).2 (by omega)⟩;unfold tm;rw[QO];unfold pi;rw[PZ ⟨c,rfl⟩,R];rfl
 have ac:∀x∈w.Uy,x∈d'.Uy:=fun x d=>by rw[z];simp[d]
 have f:∀{n:Nat} {s:St},d'.UD[n]?=XK s->(n<w.UD.length/\w.UD[n]?=XK s)∨(n=w.UD.length/\s=⟨w.kind,w.label,w.Um,w.Ux,p,0⟩):=fun {n s} g=>by
  rw[y]at g;by_cases c:n<w.UD.length
  ·rw[PR c]at g;exact P0 ⟨c,g⟩
  ·have:=(Qc.1 g).1;rw[Qa,Ra]at this;have e:n=w.UD.length:=by omega
   subst e;rw[Qb (PQ _),Rl]at g;exact P7 ⟨rfl,(Qz g).symm⟩
 have A:∀{n:Nat} {s:St},w.UD[n]?=XK s->d'.UD[n]?=XK s:=fun g=>by
  rw[y,PR (Qc.1 g).1];exact g
 refine⟨by rw[P,t];exact V.cv,by rw[U,t];exact V.av,by rw[z,y,xe,V.typ],?_,?_,by rw[Q,C];exact V.len,?_,by rw[C];exact V.ord,?_,?_,?_,?_,?_,?_,?_,?_,?_⟩
 ·intro x d;rw[z]at d;rw[t];rcases Qo.1 d with d | d
  ·exact V.tv x d
  ·by_cases c:w.kind=2
   ·obtain⟨v,-,-,L,M,-⟩:=o c;rw[L]at d;rw[Qn.1 d];exact M
   ·unfold tm at d;rw[QO]at d;unfold pi at d;rw[PV (by rintro ⟨h,-⟩;exact c h)]at d;cases d
 ·rw[z];by_cases c:w.kind=2
  ·obtain⟨v,-,-,L,-,N⟩:=o c;rw[L];refine List.nodup_append.2 ⟨V.nd,by simp,?_⟩;intro a E b Y e;rw[Qn.1 Y]at e;exact N (e ▸ E)
  ·have:tm [⟨w.kind,w.label,w.Um,w.Ux,p,0⟩]=[]:=by
    unfold tm;rw[QO];unfold pi;rw[PV (by rintro ⟨h,-⟩;exact c h)];rfl
   rw[this,QK];exact V.nd
 ·intro i q b j l;rw[Q]at j;rw[C]at l;obtain⟨r1,r2,r3⟩:=V.blk i q b j l;rw[y,z];refine⟨by rw[Qa];omega,by rw[Qa];omega,?_⟩;rw[Tj r1,Tj r2,r3]
 ·rw[h];intro _ x d;cases d
 ·rw[h];intro _ x d;cases d
 ·rw[h];intro _ i x d;cases d
 ·rw[h];intro _ x d;cases d
 ·intro n s g k x d;rw[P,t];rcases f g with ⟨r,g⟩ | ⟨rfl,rfl⟩
  ·rcases V.st n s g k x d with a | ⟨a,b⟩
   ·exact P0 a
   ·refine P7 ⟨a,fun c=>?_⟩;obtain⟨m,u,B,I,J⟩:=b c;exact⟨m,u,B,A I,J⟩
  ·simp only at k d;by_cases c:w.kind=2
   ·obtain⟨i,Z⟩:=Ss d;have:=V.c2 c i x Z;by_cases O:i=0
    ·exact P0 (this.1 O)
    ·exact P7 ⟨(this.2 O).1,fun h=>absurd c h⟩
   ·rcases V.c3 ⟨by omega,by omega⟩ x d with a | ⟨a,b⟩
    ·exact P0 a
    ·refine P7 ⟨a,fun _=>?_⟩;rw[V.typ]at b;obtain⟨m,u,B,I,J,m4⟩:=DV.1 b;exact⟨m,u,(Qc.1 B).1,A B,I,m4,P0 J⟩
 ·intro n m s u j l S T G H;rcases f l with ⟨hm,l⟩ | ⟨rfl,rfl⟩
  ·rcases f j with ⟨r,j⟩ | ⟨rfl,rfl⟩
   ·exact V.ds n m s u j l S T G H
   ·omega
  ·rcases f j with ⟨r,j⟩ | ⟨rfl,rfl⟩
   ·have D:s.til=0:=(by have:=V.til n s j;omega);obtain⟨v,-,K,-,-,N⟩:=o T;rw[K];intro e;exact N (by rw[V.typ];exact DV.2 ⟨n,s,j,S,D,e⟩)
   ·omega
 ·intro n s g k;rw[t];rcases f g with ⟨r,g⟩ | ⟨rfl,rfl⟩
  ·exact V.fl n s g k
  ·obtain⟨v,-,K,-,M,-⟩:=o k;rw[K];exact M
 ·intro n s g;rw[y,Qa,Ra];rcases f g with ⟨r,g⟩ | ⟨rfl,rfl⟩
  ·have:=V.til n s g;omega
  ·simp
 ·intro k h u s F j l E D H;rcases f l with ⟨hm,l⟩ | ⟨rfl,rfl⟩
  ·rcases f j with ⟨r,j⟩ | ⟨rfl,rfl⟩
   ·exact V.nest k h u s F j l E D H
   ·omega
  ·rcases f j with ⟨r,j⟩ | ⟨rfl,rfl⟩
   ·have:=V.til k u j;omega
   ·omega
theorem Vr.fin(V:Vr w)(p:Pl):Vr (iU w p).2:=by
 unfold iU;split
 ·exact V
 ·next l =>
  split
  ·exact V
  ·unfold bK;split
   ·next d =>
    have d:w.kind=7:=(by simpa using d);refine⟨?_,V.av,V.typ,V.tv,V.nd,V.len,V.blk,V.ord,(fun _ x c=>by cases c),(fun _ x c=>by cases c),(fun _ i x c=>by cases c),(fun _ x c=>by cases c),?_,V.ds,V.fl,V.til,V.nest⟩
    ·intro x c;rcases Qo.1 c with c | c
     ·exact V.cv x c
     ·exact V.c7 d x c
    ·intro n s g k x c;rcases V.st n s g k x c with a | a
     ·exact P0 (RQ _ a)
     ·exact P7 a
   ·split
    ·next d f =>
     have f:w.kind=8:=(by simpa using f);have e:∀x,x∈(dx w w.Um.length).Up ↔ x∈w.Up∨x∈w.Um:=fun x=>by
      show x∈bS w.Up (w.Um.take w.Um.length) ↔ _;rw[QJ];exact IT _ _ _
     refine⟨?_,?_,V.typ,fun x c=>(e x).2 (P0 (V.tv x c)),V.nd,V.len,V.blk,V.ord,(fun _ x c=>by cases c),(fun _ x c=>by cases c),(fun _ i x c=>by cases c),(fun _ x c=>by cases c),?_,V.ds,fun n s g k=>(e _).2 (P0 (V.fl n s g k)),V.til,V.nest⟩
     ·intro x c m;rcases(e x).1 m with h | h
      ·exact V.cv x c h
      ·exact V.c8 f x h c
     ·intro x c;have c:x∈w.Uv++w.Um:=c;rcases Qo.1 c with c | c
      ·exact(e x).2 (P0 (V.av x c))
      ·exact(e x).2 (P7 c)
     ·intro n s g k x c;rcases V.st n s g k x c with a | ⟨a,b⟩
      ·exact P0 a
      ·exact P7 ⟨(e x).2 (P0 a),b⟩
    ·next d f =>
     have D:w.kind≠7:=(by simpa using d);have E:w.kind≠8:=(by simpa using f);have t:∀(q:Db),(dh q).Uo=q.Uo/\(dh q).Up=q.Up/\(dh q).Uv=q.Uv/\(dh q).blocks=q.blocks/\(dh q).UD=q.UD/\(dh q).rbl=q.rbl/\(dh q).kind=q.kind/\(dh q).label=q.label/\(dh q).Um=q.Um/\(dh q).Ux=q.Ux:=fun q=>by
      unfold dh;split <;> simp
     obtain⟨o,r,u,v,y,z,A,B,C,j⟩:=t w;refine V.put p (by omega) o r u rfl v ?_ z rfl
     show(dh w).UD++[⟨(dh w).kind,(dh w).label,(dh w).Um,(dh w).Ux,p,0⟩]=_
     rw[y,A,B,C,j]
theorem Vr.take(V:Vr w)(N:Nm z2 w)(x:ByteArray)(p:Pl):Vr (aK w x p).2:=by
 unfold aK;split
 ·next l=>exact V.first x (N.nne (P0 (by simpa using l)))
 ·next l =>
  split
  ·next m=>exact V.keyword x (N.nne (P7 (by simpa using m)))
  ·next m =>
   split
   ·exact V.fin p
   ·split
    ·unfold bO;split
     ·exact V
     ·exact⟨V.cv,V.av,V.typ,V.tv,V.nd,V.len,V.blk,V.ord,V.c7,V.c8,V.c2,V.c3,V.st,V.ds,V.fl,V.til,V.nest⟩
    ·split
     ·exact V
     ·split
      ·exact⟨V.cv,V.av,V.typ,V.tv,V.nd,V.len,V.blk,V.ord,V.c7,V.c8,V.c2,V.c3,V.st,V.ds,V.fl,V.til,V.nest⟩
      ·split
       ·next o =>
        have a:aC w x=0:=(by simpa using o);unfold aC at a;refine⟨V.cv,V.av,V.typ,V.tv,V.nd,V.len,V.blk,V.ord,?_,?_,?_,?_,V.st,V.ds,V.fl,V.til,V.nest⟩
        ·intro (k:w.kind=7) y b;rcases Qo.1 b with b | b
         ·exact V.c7 k y b
         ·rw[Qn.1 b];rw[PZ (by rw[k];rfl)]at a;intro j;rw[PZ (P7 (by unfold cm;rw[(gj _ _).2 j];simp))]at a;cases a
        ·intro (k:w.kind=8) y b;rcases Qo.1 b with b | b
         ·exact V.c8 k y b
         ·rw[Qn.1 b];rw[PV (by rw[k];decide),PZ (by rw[k];rfl)]at a;intro j;rw[PZ (P7 (by unfold di;rw[(gj _ _).2 j];simp))]at a;cases a
        ·intro (k:w.kind=2) i y b;have b:(w.Um++[x])[i]?=XK y:=b;by_cases c:i<w.Um.length
         ·rw[PR c]at b;exact V.c2 k i y b
         ·have:=(Qc.1 b).1;rw[Qa,Ra]at this;have e:i=w.Um.length:=by omega
          subst e;rw[Qb (PQ _),Rl]at b;have e:=Qz b;subst e;rw[PV (by rw[k];decide),PV (by rw[k];decide),PV (by rw[k];decide)]at a;by_cases z:w.Um.length=0
          ·rw[PZ z]at a;refine⟨fun _=>?_,fun h=>absurd z h⟩;unfold dD at a;refine(gj _ _).1 ?_;cases g:aM w.Uo x with
           | true=>rfl
           | false=>rw[PZ g]at a;cases a
          ·rw[PV z,PZ (by rw[k];rfl)]at a;refine⟨fun h=>absurd h z,fun _=>?_⟩;unfold cZ at a;split at a
           ·cases a
           ·split at a
            ·cases a
            ·next d =>
             split at a
             ·cases a
             ·next f=>exact⟨V.av x ((gj _ _).1 (by simpa using d)),(Ou _ _).1 (by simpa using f)⟩
        ·intro (k:3<=w.kind/\w.kind<=5) y b;rcases Qo.1 b with b | b
         ·exact V.c3 k y b
         ·rw[Qn.1 b];have s:(w.kind==7)=XM:=(by rw[Qi];omega);have t:(w.kind==8)=XM:=(by rw[Qi];omega);have q:(w.kind==1)=XM:=(by rw[Qi];omega);have r:(w.kind==2)=XM:=(by rw[Qi];omega);rw[PV (by rw[s];simp),PV (by rw[t];simp),PV (by rw[q];simp)]at a;by_cases z:w.Um.length=0
          ·rw[PZ z]at a;unfold dD at a;refine P0 ((gj _ _).1 ?_);cases g:aM w.Uo x with
           | true=>rfl
           | false=>rw[PZ g]at a;cases a
          ·rw[PV z,PV (by rw[r];simp)]at a;unfold cN at a;split at a
           ·next n=>exact P0 ((gj _ _).1 n)
           ·split at a
            ·cases a
            ·next d =>
             split at a
             ·cases a
             ·next f=>exact P7 ⟨V.av x ((gj _ _).1 (by simpa using d)),(gj _ _).1 (by simpa using f)⟩
       ·exact V
theorem FV(c:∀k,k<=b.size->aF (an b k).1=XL->dz (an b k).1.text=XM->z2 (an b k).1.text)(f:Nat):∀k d,k<=b.size->Nm z2 d->Vr d->Vr (cV n b f k d).2:=by
 induction f with
 | zero=>intro k d _ _ h;exact h
 | succ f i =>
  intro k d a h V;have e:=dG b k a;rw[cV];split
  ·next g =>
   split
   ·exact i _ _ e.2.1 (h.take _ _ (c k a g)) (V.take h _ _)
   ·exact V.take h _ _
  ·split
   ·split <;> exact V
   ·exact V
theorem ql:Vr (aJ b).2:=FV _ b (fun k c h a=>pg b k c h a) _ 0 _ (Qx _) Nm.empty Vr.empty
def iM(s:ByteArray):Nat->List ByteArray×Nat
 | 0=>([],0)
 | i+1=>if(ar s i==32)=XL then((iM s i).1++[s.extract (iM s i).2 i],i+1) else iM s i
def aV(s:ByteArray):List ByteArray:=(iM s s.size).1++[s.extract (iM s s.size).2 s.size]
theorem mm(h:(ar n N==32)=XL):iM n (N+1)=((iM n N).1++[n.extract (iM n N).2 N],N+1):=by rw[iM,PZ h]
theorem mK(h:(ar n N==32)=XM):iM n (N+1)=iM n N:=by rw[iM,PV (by rw[h];simp)]
theorem Ee(i:Nat):(iM b i).2<=i/\(iM b i).1.length<=i:=by
 induction i with
 | zero=>simp[iM]
 | succ i a =>
  cases h:(ar b i==32)
  ·rw[mK b i h];omega
  ·rw[mm b i h];simp;omega
def iT(x:ByteArray):Prop:=∀i,i<x.size->(ar x i==32)=XM
theorem Wd.noBl(h:Wd T):iT T:=by
 intro i b;have:=(h.2 i b).1;cases e:(ar T i==32)
 ·rfl
 ·have a:ar T i=32:=by simpa using e
  rw[a]at this
  revert this;decide
theorem qy(h:iT b):aV b=[b]:=by
 have:∀i,i<=b.size->iM b i=([],0):=by
  intro i
  induction i with
  | zero=>intro _;rfl
  | succ i a=>intro c;rw[mK b i (h i (by omega))];exact a (by omega)
 unfold aV;rw[this b.size (PQ _)];simp
theorem oQ(a z:Nat)(e:z<=n.size):(n++b).extract a z=n.extract a z:=by
 apply Sm
 ·simp only[ByteArray.size_extract,ByteArray.size_append];omega
 ·intro i c d;rw[Rz,Rz,Tg]
theorem kr:(⟨#[32]⟩:ByteArray).size=1:=rfl
theorem kP(h:iT b):aV (n++(⟨#[32]⟩++b))=aV n++[b]:=by
 have m:∀i,i<=n.size->iM (n++(⟨#[32]⟩++b)) i=iM n i:=by
  intro i
  induction i with
  | zero=>intro _;rfl
  | succ i a =>
   intro j;have a:=a (by omega);have l:=aW n (⟨#[32]⟩++b) i (by omega);cases e:(ar n i==32)
   ·rw[mK _ i (by rw[l];exact e),mK n i e,a]
   ·rw[mm _ i (by rw[l];exact e),mm n i e,a,oQ _ _ _ _ (by omega)]
 have k:(n++(⟨#[32]⟩++b)).size=n.size+1+b.size:=by simp only[ByteArray.size_append,kr];omega
 have f:ar (n++(⟨#[32]⟩++b)) n.size=32:=by
  have:=bi n (⟨#[32]⟩++b) 0 (by simp only[ByteArray.size_append,kr];omega);rw[QT]at this;rw[this,aW _ _ 0 (by rw[kr];omega)];decide +kernel
 have d:∀i,i<b.size->ar (n++(⟨#[32]⟩++b)) (n.size+1+i)=ar b i:=by
  intro i j;have:=bi n (⟨#[32]⟩++b) (1+i) (by simp only[ByteArray.size_append,kr];omega);rw[show n.size+1+i=n.size+(1+i) by omega,this];have c:=bi (⟨#[32]⟩:ByteArray) b i j;rw[kr]at c;exact c
 have o:∀i,i<=b.size->iM (n++(⟨#[32]⟩++b)) (n.size+1+i)=(aV n,n.size+1):=by
  intro i
  induction i with
  | zero =>
   intro _;rw[QT,mm _ n.size (by rw[f];rfl),m _ (PQ _),oQ _ _ _ _ (PQ _)];rfl
  | succ i a =>
   intro j;rw[show n.size+1+(i+1)=(n.size+1+i)+1 by omega,mK _ _ (by rw[d i (by omega)];exact h i (by omega))];exact a (by omega)
 conv=>lhs;unfold aV
 rw[k,o b.size (PQ _)];simp only;congr 2;apply Sm
 ·simp only[ByteArray.size_extract,k];omega
 ·intro i p c;rw[Rz];have g:=d i c;rw[aY _ _ (by rw[k];omega),aY _ _ c]at g;exact UInt8.toNat_inj.1 (by omega)
theorem uz(c:iT L.label)(d:∀x∈L.Um,iT x)(k:Nat)(f:k<=L.Um.length):aV (jn L k)=L.label :: eA L.kind :: L.Um.take k:=by
 induction k with
 | zero =>
  unfold jn;simp only[List.take_zero,List.foldl_nil];rw[Ry,kP _ _ ?_,qy _ c]
  ·rfl
  ·unfold eA
   repeat' split
   all_goals (intro i b;have a:i<2:=b;match i,a with | 0,_=>decide +kernel | 1,_=>decide +kernel)
 | succ k e =>
  rw[lT L k (by omega),kP _ _ (d _ (PT _)),e (by omega),d7 L.Um k (by omega)];simp
theorem CO(a:iT L.label)(b:∀x∈L.Um,iT x):aV (d8 L)=L.label :: eA L.kind :: L.Um:=by
 unfold d8;rw[uz L a b _ (PQ _),QJ]
set_option maxRecDepth 100000
theorem vN(w:XP)(Z:b.size<=1073741824) :
  XO prog 59 #[Xy b] w fun e T=>∃l:Hd,e=XH (Xz l.ao (aV b).length l.cap)/\aE T l (au (aV b))/\(∀x,l.blk=XK x->w.heap.size<=x)/\aa [] w T:=by
 obtain⟨S,R,H,I,J⟩:=Qq ey;go_enter func59,ntmps59;go_wp2
 go_loopg [3,4,5] b.size (fun gk V U i wr=>∃(k:Nat) (l:Hd),k<=b.size/\gk=b.size-k/\i=Xx XF k/\U=Xx XF (iM b k).2/\V=Xz l.ao (iM b k).1.length l.cap/\aE wr l (au (iM b k).1)/\(∀x,l.blk=XK x->w.heap.size<=x)/\aa [] w wr)
 case atStart=>exact⟨0,⟨XJ,0⟩,by omega,by omega,rfl,rfl,rfl,Qj _ _ _ _,by intro x t;simp[Hd.blk]at t,aa.refl _ _⟩
 case round =>
  obtain⟨k,l,Y,X,rfl,rfl,rfl,B,D,K⟩:=hrel;have F:=Ee b k;by_cases g:k<b.size
  ·have C:XN _:=mm b k;have m:XN _:=mK b k;rw[aY b k g]at C m;generalize hsp:iM b k=O at *;obtain⟨d,a⟩:=O;simp only at F B C m ⊢;have M:(a:Int)<=k:=(by omega);cases E:(((b[k]'g).toNat:Int)==32)
   ·have v:XN _:=m.out E;clear C m;have L:(b[k]'g==32)=XM:=by
     cases e:(b[k]'g==32)
     ·rfl
     ·have Q:b[k]'g=32:=(by simpa using e);rw[Q]at E;revert E;decide
    go_wp2;go_roundg (b.size-(k+1))
    case measure=>omega
    case rel=>exact⟨k+1,l,by omega,rfl,by go_num,by rw[v.out],by rw[v.out],by rw[v.out];exact B,D,K⟩
   ·have v:XN _:=C.out E;clear C m;have L:(b[k]'g==32)=XL:=by
     have Q:((b[k]'g).toNat:Int)=32:=(by simpa using E);have:b[k]'g=32:=UInt8.toNat_inj.1 (by simp;omega);rw[this];rfl
    have q:aE (wr.alloc (XE #[Xy (b.extract a k)] 9)) l (au d):=B.Uw (fun x t=>((aa.refl [] wr).alloc _).block x (B.lt t) (by simp));go_wp2_with (at_builtin;refine aD _ rfl (.tmp 16) (.tmp 21) 22 rfl S (Xy ⟨#[]⟩) 16 l (au d) underlying22 R H I J rfl Qf rfl (by exact q) ⟨_,0,XJ⟩ 1 1 [Xy (b.extract a k)] rfl rfl ?d1 ?d2 Qf ?d3 ?d4 ?_)
    case d1=>intro j u s;match j,s with | 0,s=>simp at s;subst s;simp[Addr.add]
    case d2=>intro u G;simp at G;subst G;rfl
    case d3=>simp only[au];unfold maxLen;omega
    case d4=>simp only[au];omega
    intro y o W r f c;rw[bJ d (b.extract a k)]at r;have p:=K.alloc (XE #[Xy (b.extract a k)] 9);have A:=p.grown f D;have N:w.heap.size<=y:=by
     rcases c with e | e
     ·exact D y e
     ·have:=p.size;simp at e this;omega
    have z:XN ((au d).n+1=(d++[b.extract a k]).length):=(by show _=_;simp[au]);rw[z.out];clear f c q;go_wp2;go_roundg (b.size-(k+1))
    case measure=>omega
    case rel=>exact⟨k+1,⟨XK ⟨y,0,XJ⟩,o⟩,by omega,rfl,by go_num,by rw[v.out];go_num,by rw[v.out],by rw[v.out];exact r,by intro x t;simp[Hd.blk]at t;omega,A⟩
  ·have e:k=b.size:=(by omega);subst e;have P:XN (aV b=(iM b b.size).1++[b.extract (iM b b.size).2 b.size]):=rfl;generalize iM b b.size=O at *;obtain⟨d,a⟩:=O;simp only at F B P ⊢;have M:(a:Int)<=b.size:=by omega
   have q:aE (wr.alloc (XE #[Xy (b.extract a b.size)] 9)) l (au d):=B.Uw (fun x t=>((aa.refl [] wr).alloc _).block x (B.lt t) (by simp));go_wp2_with (at_builtin;refine aD _ rfl (.tmp 25) (.tmp 29) 22 rfl S (Xy ⟨#[]⟩) 16 l (au d) underlying22 R H I J rfl Qf rfl (by exact q) ⟨_,0,XJ⟩ 1 1 [Xy (b.extract a b.size)] rfl rfl ?d1 ?d2 Qf ?d3 ?d4 ?_)
   case d1=>intro j u s;match j,s with | 0,s=>simp at s;subst s;simp[Addr.add]
   case d2=>intro u G;simp at G;subst G;rfl
   case d3=>simp only[au];unfold maxLen;omega
   case d4=>simp only[au];omega
   intro y o W r f c;rw[bJ d (b.extract a b.size)]at r;have p:=K.alloc (XE #[Xy (b.extract a b.size)] 9);have A:=p.grown f D;have N:w.heap.size<=y:=by
    rcases c with e | e
    ·exact D y e
    ·have:=p.size;simp at e this;omega
   have z:XN ((au d).n+1=(d++[b.extract a b.size]).length):=(by show _=_;simp[au]);rw[z.out];clear f c q;go_wp2;go_ret;rw[P.out];exact⟨⟨XK ⟨y,0,XJ⟩,o⟩,rfl,r,by intro x t;simp[Hd.blk]at t;omega,A⟩
structure Fm where
 hyps:List ByteArray
 which:List Int
 vars:List ByteArray
 types:List ByteArray
 ess:List (List ByteArray)
 left:List ByteArray
 right:List ByteArray
 goal:List ByteArray
def xS:Fm:=⟨[],[],[],[],[],[],[],[]⟩
def Ox(ws:List ByteArray):Bool:=(gD ws 0).toList == [36,100]
def f7(ws:List ByteArray)(c:UInt8):Bool:=(gD ws 1).toList == [36,c]
def bP(f:Fm)(ws:List ByteArray):Fm :=
 if Ox ws=XL then { f with left:=f.left++[gD ws 1],right:=f.right++[gD ws 2] }
 else if f7 ws 102=XL/\ws.length=4 then { f with hyps:=f.hyps++[gD ws 0],which:=f.which++[(f.vars.length:Int)],types:=f.types++[gD ws 2],vars:=f.vars++[gD ws 3] }
 else if f7 ws 101=XL then { f with hyps:=f.hyps++[gD ws 0],which:=f.which++[-1-(f.ess.length:Int)],ess:=f.ess++[ws.drop 2] }
 else { f with goal:=ws.drop 2 }
def fK(L:List ByteArray)(k:Nat):Fm:=(L.take k).foldl (fun f x=>bP f (aV x)) xS
theorem qO(L:List ByteArray)(k:Nat)(h:k<L.length):fK L (k+1)=bP (fK L k) (aV L[k]):=by
 unfold fK;rw[d7 L k h,Rb];rfl
def cM(L:List ByteArray):Fm:=fK L L.length
structure pT(lab:ByteArray)(last:Bool)(x:ByteArray):Prop where
 size:x.size<=1073741824
 len:3<=(aV x).length
 way:Ox (aV x)=XL∨(Ox (aV x)=XM/\((f7 (aV x) 102=XL/\(aV x).length=4)∨(f7 (aV x) 102=XM/\(f7 (aV x) 101=XL∨(f7 (aV x) 101=XM/\(f7 (aV x) 97=XL∨f7 (aV x) 112=XL)/\((gD (aV x) 0).toList==lab.toList)=XL/\last=XL)))))
def fN(l:List Int):fe:=⟨3,1,l.length,l.map (Xx XF)⟩
theorem mH(l:List Int)(x:Int):(⟨(fN l).e,(fN l).size,(fN l).n+1,(fN l).xs++[Xx XF x]⟩:fe)=fN (l++[x]):=by simp[fN]
def xT(lab:ByteArray)(lv:XQ)(f:Fm)(es:List Ex)(hg:Hd)(H:Nat->Hd):List XQ :=
 [Xy lab,lv,Xz (H 0).ao f.hyps.length (H 0).cap,Xz (H 1).ao f.which.length (H 1).cap,Xz (H 2).ao f.vars.length (H 2).cap,Xz (H 3).ao f.types.length (H 3).cap,Xz (H 4).ao es.length (H 4).cap,Xz (H 5).ao f.left.length (H 5).cap,Xz (H 6).ao f.right.length (H 6).cap,Xz hg.ao f.goal.length hg.cap]
def MO(f:Fm)(es:List Ex):Nat->fe
 | 0=>au f.hyps
 | 1=>fN f.which
 | 2=>au f.vars
 | 3=>au f.types
 | 4=>dv es
 | 5=>au f.left
 | 6=>au f.right
 | _+7=>au []
structure fQ(w:XP)(F n:Nat)(lab:ByteArray)(lv:XQ)(f:Fm)(es:List Ex)(hg:Hd)(H:Nat->Hd):Prop where
 bag:aB w F 72 (xT lab lv f es hg H) (MO f es) H
 new:n<=F/\∀k,cD H k->n<=k
 exs:∀e∈es,pQ w F H e/\∀x,e.hd.blk=XK x->n<=x
 ess:es.map (·.xs)=f.ess
 gl:cE w hg f.goal/\∀x,hg.blk=XK x->x<w.heap.size/\x≠F/\¬cD H x/\n<=x
theorem fQ.Ur{a:Fm}(h:fQ f l x T M a v y H)(k:aa [] f S):fQ S l x T M a v y H :=
 ⟨h.bag.Ur k,h.new,fun e b=>⟨(h.exs e b).1.Ur k,(h.exs e b).2⟩,h.ess,h.gl.1.Ur k,fun d c=>⟨PY (h.gl.2 d c).1 k.size,(h.gl.2 d c).2⟩⟩
theorem fQ.app{o f':Fm}{es':List Ex}(h:fQ f l x T M o v y H)(Q:x<=f.heap.size)(c i g a m:Nat)(r:fe)(B:aE S ⟨XK ⟨g,0,XJ⟩,a⟩ r)(O:r=MO f' es' i)(A:f.grownBy S (H i).blk)(b:(H i).blk=XK g∨f.heap.size<=g)(q:∀j,j≠i->MO f' es' j=MO o v j)(D:XQ)(P:(xT T M o v y H)[c]?=XK D)(N:(xT T M o v y H).set c (Xz (XK ⟨g,0,XJ⟩) m a)=xT T M f' es' y (cX H i ⟨XK ⟨g,0,XJ⟩,a⟩))(p:∀e∈es',pQ f l H e/\∀d,e.hd.blk=XK d->x<=d)(w:es'.map (·.xs)=f'.ess)(z:f'.goal=o.goal) :
  XI S ⟨l,c,XJ⟩=XK D/\S.frozen? ⟨l,c,XJ⟩=XM /\
  XN (fQ (S.setCell ⟨l,c,XJ⟩ (Xz (XK ⟨g,0,XJ⟩) m a)) l x T M f' es' y (cX H i ⟨XK ⟨g,0,XJ⟩,a⟩) /\
   aj l f H (S.setCell ⟨l,c,XJ⟩ (Xz (XK ⟨g,0,XJ⟩) m a)) (cX H i ⟨XK ⟨g,0,XJ⟩,a⟩)):=by
 obtain⟨G,I,J⟩:=h.bag.app (rows':=MO f' es') c i g a m r B O A b q D P N;obtain⟨K,n⟩:=J.out;refine⟨G,I,⟨⟨K,⟨h.new.1,?_⟩,fun e F=>⟨(p e F).1.turned n,(p e F).2⟩,w,?_,?_⟩,n⟩⟩
 ·intro k s;rcases n.2 k s with s | s
  ·exact h.new.2 k s
  ·omega
 ·rw[z];refine h.gl.1.keptP n.1 (fun d C=>?_);obtain⟨_,t,u,_⟩:=h.gl.2 d C;rintro (e | e)
  ·exact t e
  ·exact u e
 ·intro d C;obtain⟨E,t,u,L⟩:=h.gl.2 d C;exact⟨PY E n.1.size,t,n.fresh d E u,L⟩
theorem aa.turned(k:aa [] f S)(t:aj l S H I g)(c:f.heap.size<=l)(b:∀x,cD H x->f.heap.size<=x):aa [] f I :=
 ⟨t.1.os.trans k.os,t.1.tape.trans k.tape,t.1.output.trans k.output,Qk k.size t.1.size,fun i a _=>(t.1.block i (PY a k.size) (fun q=>q.elim (fun e=>by omega) (fun e=>by have:=b i e;omega))).trans (k.block i a (by simp))⟩
theorem fQ.goal{k:Fm}(h:fQ f l x T M k v y H)(c:List ByteArray)(a:Hd)(s:cE f a c)(o:∀b,a.blk=XK b->b<f.heap.size/\b≠l/\¬cD H b/\x<=b) :
  fQ (f.setCell ⟨l,9,XJ⟩ (Xz a.ao c.length a.cap)) l x T M { k with goal:=c } v a H/\aj l f H (f.setCell ⟨l,9,XJ⟩ (Xz a.ao c.length a.cap)) H:=by
 obtain⟨p,d⟩:=h.bag.set 9 (Xz a.ao c.length a.cap);refine⟨⟨p,h.new,fun e n=>⟨(h.exs e n).1.turned d,(h.exs e n).2⟩,h.ess,?_,?_⟩,d⟩
 ·refine s.keptP d.1 (fun b j=>?_);obtain⟨_,g,i,_⟩:=o b j;rintro (e | e)
  ·exact g e
  ·exact i e
 ·intro b j;obtain⟨q,g,i,r⟩:=o b j;exact⟨PY q d.1.size,g,i,r⟩
structure dW(w0 w:XP)(F g:Nat)(lab:ByteArray)(L:List ByteArray)(f:Fm)(es:List Ex)(hg:Hd)(H:Nat->Hd)(gt tc:Nat)(ws:List ByteArray):Prop where
 fm:fQ w F w0.heap.size lab (Xz (XK ⟨g,0,XJ⟩) L.length L.length) f es hg H
 lns:ej w g L L.length
 gf:w0.heap.size<=g/\g≠F/\¬cD H g
 tw:aE w ⟨XK ⟨gt,0,XJ⟩,tc⟩ (au ws)
 tf:gt≠F/\¬cD H gt
 kept:aa [] w0 w
 tn:w0.heap.size<=gt
theorem dW.Ur{b:Fm}(h:dW f S l x T d b v y H a o D)(k:aa [] S I):dW f I l x T d b v y H a o D :=
 ⟨h.fm.Ur k,h.lns.kept k (by simp),h.gf,h.tw.Uw (fun e c=>k.block e (h.tw.lt c) (by simp)),h.tf,h.kept.trans k,h.tn⟩
theorem dW.turn{r p:Fm}{c:List Ex}{i:Hd}(h:dW f S l x T d r v y H a o D)(b:fQ I l f.heap.size T (Xz (XK ⟨x,0,XJ⟩) d.length d.length) p c i g)(t:aj l S H I g):dW f I l x T d p c i g a o D:=by
 have j:=ae h.lns;have m:=h.tw.lt (k:=a) rfl;refine⟨b,?_,⟨h.gf.1,h.gf.2.1,t.fresh x j h.gf.2.2⟩,?_,⟨h.tf.1,t.fresh a m h.tf.2⟩,h.kept.turned t h.fm.new.1 h.fm.new.2,h.tn⟩
 ·exact t.1.get h.lns (by rintro (e | e);exact h.gf.2.1 e;exact h.gf.2.2 e)
 ·refine h.tw.Uw (fun q n=>t.1.block q (h.tw.lt n) ?_);have e:q=a:=by simp[Hd.blk]at n;exact n.symm
  subst e;rintro (e | e)
  ·exact h.tf.1 e
  ·exact h.tf.2 e
theorem dW.app{n f':Fm}{es':List Ex}(h:dW f S l x T d n v y H a o D)(c i k b m:Nat)(r:fe)(w:aE I ⟨XK ⟨k,0,XJ⟩,b⟩ r)(G:r=MO f' es' i)(u:S.grownBy I (H i).blk)(g:(H i).blk=XK k∨S.heap.size<=k)(p:∀j,j≠i->MO f' es' j=MO n v j)(z:XQ)(J:(xT T (Xz (XK ⟨x,0,XJ⟩) d.length d.length) n v y H)[c]?=XK z)(F:(xT T (Xz (XK ⟨x,0,XJ⟩) d.length d.length) n v y H).set c (Xz (XK ⟨k,0,XJ⟩) m b)=xT T (Xz (XK ⟨x,0,XJ⟩) d.length d.length) f' es' y (cX H i ⟨XK ⟨k,0,XJ⟩,b⟩))(s:∀e∈es',pQ S l H e/\∀B,e.hd.blk=XK B->f.heap.size<=B)(q:es'.map (·.xs)=f'.ess)(t:f'.goal=n.goal) :
  XI I ⟨l,c,XJ⟩=XK z/\I.frozen? ⟨l,c,XJ⟩=XM /\
  XN (dW f (I.setCell ⟨l,c,XJ⟩ (Xz (XK ⟨k,0,XJ⟩) m b)) l x T d f' es' y (cX H i ⟨XK ⟨k,0,XJ⟩,b⟩) a o D):=by
 obtain⟨C,E,A⟩:=h.fm.app h.kept.size c i k b m r w G u g p z J F s q t;exact⟨C,E,h.turn A.out.1 A.out.2⟩
theorem dW.word{c:Fm}(h:dW f S l x T d c v y H a o D)(j:Nat)(b:ByteArray)(e:D[j]?=XK b):XI S ⟨a,j,XJ⟩=XK (Xy b) :=
 h.tw.cell rfl j (Xy b) (by simp[au,strs,e])
theorem dW.cell{b:Fm}(h:dW f S l x T d b v y H a o D)(i:Nat)(c:XQ)(e:(xT T (Xz (XK ⟨x,0,XJ⟩) d.length d.length) b v y H)[i]?=XK c):XI S ⟨l,i,XJ⟩=XK c:=by
 rw[h.fm.bag.cell];exact e
theorem dW.lts{b:Fm}(h:dW f S l x T d b v y H a o D):l<S.heap.size/\a<S.heap.size/\x<S.heap.size:=⟨h.fm.bag.lt,h.tw.lt (k:=a) rfl,ae h.lns⟩
theorem dW.rest{r:Fm}(h:dW f S l x T d r v y H a o D):pQ S l H ⟨⟨XK ⟨a,2,XJ⟩,o-2⟩,D.drop 2⟩:=by
 have u:=h.tw.view;refine⟨?_,⟨_,rfl⟩,fun c i=>?_⟩
 ·rcases u with s | ⟨z,w,b,t,k,m,n,p,q⟩
  ·left;rw[s];rfl
  ·right
   cases k
   refine⟨a,2,b,t,rfl,m,?_,?_,?_⟩
   ·intro j c g;rw[Sh]at g;have:=n (2+j) c g;rw[Sv]at this;exact this
   ·simp only[List.length_drop];have:D.length<=o:=p;omega
   ·have:o<=9223372036854775807:=q;show o-2<=_;omega
 ·have e:c=a:=by simp[Hd.blk]at i;exact i.symm
  subst e;exact⟨h.lts.2.1,h.tf⟩
def eP(n:Nat):Code->Option Code
 | .region id ops d=>match Nat.beq id n with
  | true=>XK (.region id ops d)
  | false=>XJ
 | .seq a b=>match eP n a with
  | some c=>XK c
  | none=>eP n b
 | .cond _ a b=>match eP n a with
  | some c=>XK c
  | none=>eP n b
 | .block _ c=>eP n c
 | .loop c=>eP n c
 | .scope c=>eP n c
 | _=>XJ
def rh(gt tc:Nat)(r:List ByteArray):Ex:=⟨⟨XK ⟨gt,2,XJ⟩,tc-2⟩,r⟩
theorem kU(h:Code.wp m s (Exit.then z0 (fun _ _ _=>False)) z1 f):Code.wp m s (Exit.then z0 z3) z1 f:=by
 refine wp_mono h ?_;intro e b d a;cases e with
 | normal=>exact a
 | exit id=>exact a.elim
 | goto l=>exact a.elim
 | ret=>exact a.elim
 | panic c=>exact a.elim
 | outgrown=>exact a.elim
theorem vY(h:Code.wp m s (Exit.then z0 (fun _ _ _=>False)) z1 f)(c:∀a b,z0 a b->z3 .normal a b):Code.wp m s z3 z1 f:=by
 refine wp_mono h ?_;intro e a b q;cases e with
 | normal=>exact c _ _ q
 | exit id=>exact q.elim
 | goto l=>exact q.elim
 | ret=>exact q.elim
 | panic d=>exact q.elim
 | outgrown=>exact q.elim
set_option maxRecDepth 1000000
theorem OE(w wc:XP)(F g:Nat)(eg:ByteArray)(L:List ByteArray)(hy:List ByteArray)(wh:List Int)(va ty:List ByteArray)(ec:List (List ByteArray))(a ri go:List ByteArray)(es:List Ex)(hg:Hd)(H:Nat->Hd)(gt tc nw:Nat)(ws:List ByteArray)(x:ByteArray)(hx:ws[1]?=XK x)(hV:1<nw)(hb:a.length<=300000000)(S:XN (dW w wc F g eg L ⟨hy,wh,va,ty,ec,a,ri,go⟩ es hg H gt tc ws))(u0 u1 u2 u3 u4 u5 u7 u8 u9 eh ei ek el em en ep eq er et ev ew ex eL eM e0 e1 e2 e3 e4 e5 e6 e7 e8 e9 fb fc ff fi fk fl fr fs fu fv fx fF f0 f1 f2 f3 f4 f6 f8 ga gb hr hs ht hv hw hz hA hB hC hE hF hG gc gd ge gf gg gh gl gm gp gq gr gs gv gw g0 g1 g2 g3 g4 g6 g8 g9 ha hc hd he hf hh hl hm hn d e f i k l m o p q r s t v y z A B C D E G I M N O P Q R T U V W X Y Z ac ad ag ah ai am ao ap aq av az a0 a1 a2 a3 a4 a5 a6 a7 a8 a9 bc bd be bf bg bk bl bm bo bp bq bs bv bw bx b0 b1 b2 b3 b4 b5 b6 b7 b8 b9 ca cb cd cf cg ch cj cl cn co cs ct cu cv cx cz cW c0 c1 c2 c3 c4 c5 c6 c7 c8 c9 dc dd dk ds dT d0 d1 d2 d3 d4 d5 ea eb:XQ)(J K:Act->XP->Prop)(hJ:∀a' w',(∃hH hI hL hM hN hO hP hQ hR hS hT hU:XQ,(∃H',dW w w' F g eg L ⟨hy,wh,va,ty,ec,a++[x],ri,go⟩ es hg H' gt tc ws)/\a'=⟨#[u0,u1,u2,u3,u4,u5,XA (XK ⟨F,0,XJ⟩),u7,u8,u9,Xz (XK ⟨gt,0,XJ⟩) nw tc,eh,ei,ek,el,em,en,ep,eq,er,et,ev,ew,ex,eL,eM,e0,e1,e2,e3,e4,e5,e6,e7,e8,e9,fb,fc,ff,fi,fk,fl,fr,fs,fu,fv,fx,fF,f0,f1,f2,f3,f4,f6,f8,ga,gb,hH,hI,hL,hM,hN,hO,hP,hQ,hR,hS,hT,hU,gc,gd,ge,gf,gg,gh,gl,gm,gp,gq,gr,gs,gv,gw,g0,g1,g2,g3,g4,g6,g8,g9,ha,hc,hd,he,hf,hh,hl,hm,hn,d,e,f,i,k,l,m,o,p,q,r,s,t,v,y,z,A,B,C,D,E,G,I,M,N,O,P,Q,R,T,U,V,W,X,Y,Z,ac,ad,ag,ah,ai,am,ao,ap,aq,av,az,a0,a1,a2,a3,a4,a5,a6,a7,a8,a9,bc,bd,be,bf,bg,bk,bl,bm,bo,bp,bq,bs,bv,bw,bx,b0,b1,b2,b3,b4,b5,b6,b7,b8,b9,ca,cb,cd,cf,cg,ch,cj,cl,cn,co,cs,ct,cu,cv,cx,cz,cW,c0,c1,c2,c3,c4,c5,c6,c7,c8,c9,dc,dd,dk,ds,dT,d0,d1,d2,d3,d4,d5,ea,eb],[]⟩)->J a' w')(hK:∀a' w',Met J a' w'->K a' w') :
  Code.wp prog ((Tryz.f21.body.bind (eP 14)).getD .skip) (Exit.then K (fun _ _ _=>False)) ⟨#[u0,u1,u2,u3,u4,u5,XA (XK ⟨F,0,XJ⟩),u7,u8,u9,Xz (XK ⟨gt,0,XJ⟩) nw tc,eh,ei,ek,el,em,en,ep,eq,er,et,ev,ew,ex,eL,eM,e0,e1,e2,e3,e4,e5,e6,e7,e8,e9,fb,fc,ff,fi,fk,fl,fr,fs,fu,fv,fx,fF,f0,f1,f2,f3,f4,f6,f8,ga,gb,hr,hs,ht,hv,hw,hz,hA,hB,hC,hE,hF,hG,gc,gd,ge,gf,gg,gh,gl,gm,gp,gq,gr,gs,gv,gw,g0,g1,g2,g3,g4,g6,g8,g9,ha,hc,hd,he,hf,hh,hl,hm,hn,d,e,f,i,k,l,m,o,p,q,r,s,t,v,y,z,A,B,C,D,E,G,I,M,N,O,P,Q,R,T,U,V,W,X,Y,Z,ac,ad,ag,ah,ai,am,ao,ap,aq,av,az,a0,a1,a2,a3,a4,a5,a6,a7,a8,a9,bc,bd,be,bf,bg,bk,bl,bm,bo,bp,bq,bs,bv,bw,bx,b0,b1,b2,b3,b4,b5,b6,b7,b8,b9,ca,cb,cd,cf,cg,ch,cj,cl,cn,co,cs,ct,cu,cv,cx,cz,cW,c0,c1,c2,c3,c4,c5,c6,c7,c8,c9,dc,dd,dk,ds,dT,d0,d1,d2,d3,d4,d5,ea,eb],[]⟩ wc:=by
 conv=>arg 2;whnf
 obtain⟨i0,hi,ho,hp,hq⟩:=Qq ey;have cF:=S.out.cell 7 _ rfl;have cw:=S.out.word 1 x hx;have q0:0<nw:=by omega
 have q1:(1:Int)<(nw:Int):=by omega
 have hW:=S.out.lts;have hD:XN _:=S.out.Ur ((aa.refl [] wc).alloc (XE #[Xy x] 9)).drew;have s2:XN (∀j u,([Xy x]:List XQ)[j]?=XK u->(wc.alloc (XE #[Xy x] 9)).drew.cell? ((⟨wc.heap.size,0,XJ⟩:Addr).add j)=XK u):=by
  intro j u hj;rw[ba];have hk:(wc.alloc (XE #[Xy x] 9)).drew.heap[wc.heap.size]?=XK (XE #[Xy x] 9):=PM _ _;rw[ab hk];simpa using hj
 have s3:XN (∀u∈([Xy x]:List XQ),u.oneCell'=XL):=by intro u hu;simp at hu;subst hu;rfl
 have s4:XN ((au a).n+1<=maxLen):=by show _<=_;simp only[au];unfold maxLen;omega
 have s5:XN (((au a).n+1)*16<=140737488355328):=by show _<=_;simp only[au];omega
 go_region_law (refine aP rfl (.tmp 61) (.tmp 65) 22 rfl i0 (Xy ⟨#[]⟩) 16 (H 5) (au a) underlying22 hi ho hp hq rfl Qf (by simp[Act.eval] <;> rfl) (hD.out.fm.bag.own 5) ⟨wc.heap.size,0,XJ⟩ 1 1 [Xy x] (by simp[Act.eval]) rfl s2.out s3.out Qf s4.out s5.out ?_;intro g5 ee w5 ef c b;obtain⟨k5,f5,HP⟩:=hD.out.app (f':=⟨hy,wh,va,ty,ec,a++[x],ri,go⟩) (es':=es) 7 5 g5 ee ((au a).n+1) _ ef (bJ a x) c (by simpa using b) (fun j hj=>by rcases j with _|_|_|_|_|_|_|j <;> first | rfl | exact absurd rfl hj) _ rfl (by simp[xT,cX,au]) hD.out.fm.exs hD.out.fm.ess rfl;clear ef c b)
 all_goals go_wp2_with fail
 all_goals go_meet
 all_goals (case rel=>exact⟨_,HP.out⟩)
end Go.Proofs.YtnbalopedcgpcaaGreat

import Derived.Deep.CutRange
import Derived.Deep.CutBlock
import Derived.Test.YtlbhbocbakijbaaGreatG21
namespace Go.Proofs.YtlbhbocbakijbaaGreat
open Go.RowKit
set_option maxHeartbeats 0
theorem Vr.label{d:Db}(V:Vr d)(x:ByteArray)(hs:d.symbols=[]):Vr (aX d x).2:=by
 unfold aX
 split
 ·exact V
 ·split
  ·exact V
  ·split
   ·exact V
   ·exact V.kd rfl rfl rfl rfl rfl rfl rfl hs
theorem Vr.openB{d:Db}(V:Vr d)(hs:d.symbols=[]):Vr { d with blocks:=d.blocks++[(d.active.length,d.typed.length)],rbl:=d.rbl++[d.sts.length] }:=by
 have hL:=V.len;refine⟨V.cv,V.av,V.typ,V.tv,V.nd,by simp[hL],?_,?_,fun _ x hx=>?_,fun _ x hx=>?_,fun _ i x hx=>?_,fun _ x hx=>?_,V.st,V.ds,V.fl,V.til,V.nest⟩
 ·intro i p b g1 g2
  simp only at g1 g2 ⊢
  by_cases hi:i<d.blocks.length
  ·rw[List.getElem?_append_left hi]at g1
   rw[List.getElem?_append_left (by omega)]at g2;exact V.blk i p b g1 g2
  ·have:=(List.getElem?_eq_some_iff.1 g1).1
   rw[List.length_append,List.length_singleton]at this;have e:i=d.blocks.length:=by omega
   subst e;rw[List.getElem?_append_right (Nat.le_refl _),Nat.sub_self]at g1;rw[hL,List.getElem?_append_right (Nat.le_refl _),Nat.sub_self]at g2;have e1:=Option.some.inj g1;have e2:=Option.some.inj g2;subst e1 e2;refine⟨Nat.le_refl _,Nat.le_refl _,?_⟩;rw[List.take_length,List.take_length];exact V.typ.symm
 ·intro i j b c hij g1 g2
  simp only at g1 g2;have hj:=(List.getElem?_eq_some_iff.1 g2).1;rw[List.length_append,List.length_singleton]at hj
  by_cases hj2:j<d.rbl.length
  ·rw[List.getElem?_append_left hj2]at g2
   rw[List.getElem?_append_left (by omega)]at g1;exact V.ord i j b c hij g1 g2
  ·have e:j=d.rbl.length:=by omega
   subst e;rw[List.getElem?_append_right (Nat.le_refl _),Nat.sub_self]at g2;have e2:=Option.some.inj g2;subst e2
   by_cases hi:i<d.rbl.length
   ·rw[List.getElem?_append_left hi]at g1
    have hp:i<d.blocks.length:=by omega
    exact(V.blk i _ b (List.getElem?_eq_getElem hp) g1).1
   ·have e:i=d.rbl.length:=by omega
    subst e;rw[List.getElem?_append_right (Nat.le_refl _),Nat.sub_self]at g1;have e2:=Option.some.inj g1;omega
 all_goals (simp only[hs]at hx;cases hx)
theorem Vr.first{d:Db}(V:Vr d)(x:ByteArray)(hs:d.symbols=[]):Vr (az d x).2:=by
 unfold az
 split
 ·exact V.openB hs
 ·split
  ·split
   ·exact V
   ·next p hp =>
    unfold eV b6
    split
    ·next hn =>
     have hb:d.rbl=[]:=List.getLast?_eq_none_iff.1 hn;have hL:=V.len;rw[hb]at hL;have:d.blocks=[]:=List.eq_nil_of_length_eq_zero hL;rw[this]at hp;cases hp
    ·next b hb=>exact V.close hp hb hs
  ·split
   ·split
    ·exact V
    ·exact V.kd rfl rfl rfl rfl rfl rfl rfl hs
   ·split
    ·exact V.kd rfl rfl rfl rfl rfl rfl rfl hs
    ·split
     ·exact V.kd rfl rfl rfl rfl rfl rfl rfl hs
     ·split
      ·exact V
      ·exact V.label x hs
theorem Vr.keyword{d:Db}(V:Vr d)(x:ByteArray)(hs:d.symbols=[]):Vr (aG d x).2:=by
 unfold aG
 repeat' split
 all_goals first | exact V | exact V.kd rfl rfl rfl rfl rfl rfl rfl hs
theorem Cj(l:List ByteArray):∀v x,x∈bK v l ↔ x∈v∨x∈l:=by
 induction l with
 | nil=>intro v x;simp[bK]
 | cons y r ih =>
  intro v x;have e:bK v (y :: r)=bK (if aZ v y=true then v else v++[y]) r:=rfl;rw[e,ih]
  split
  ·next h =>
   rw[f9]at h;simp only[List.mem_cons]
   constructor
   ·rintro (h1 | h1);exact Or.inl h1;exact Or.inr (Or.inr h1)
   ·rintro (h1 | rfl | h1);exact Or.inl h1;exact Or.inl h;exact Or.inr h1
  ·rw[List.mem_append,List.mem_singleton,List.mem_cons,or_assoc]
theorem Vr.put{d d':Db}(V:Vr d)(p:Pl)(hl:dX d<=d.symbols.length)(e1:d'.constants=d.constants)(e2:d'.variables=d.variables)(e3:d'.active=d.active)(e4:d'.typed=(cZ d).typed)(e5:d'.blocks=d.blocks)(e6:d'.sts=d.sts++[⟨d.kind,d.label,d.symbols,d.proof,p,0⟩])(e7:d'.rbl=d.rbl)(h:d'.symbols=[]):Vr d':=by
 have e8:d'.typed=d.typed++pI [⟨d.kind,d.label,d.symbols,d.proof,p,0⟩]:=by
  rw[e4];unfold cZ pI
  by_cases c:d.kind=2
  ·have l2:dX d=2:=by unfold dX;rw[if_pos (Or.inr (by rw[c];rfl))]
   rw[if_pos ⟨by rw[c];rfl,by omega⟩,List.filterMap_cons];unfold mD;rw[if_pos ⟨c,rfl⟩];rfl
  ·rw[if_neg (by rintro ⟨h,-⟩;exact c (by simpa using h)),List.filterMap_cons]
   unfold mD;rw[if_neg (by rintro ⟨h,-⟩;exact c h)];simp
 have two:d.kind=2->∃v,d.symbols[1]?=some v/\vp ⟨d.kind,d.label,d.symbols,d.proof,p,0⟩=v/\pI [⟨d.kind,d.label,d.symbols,d.proof,p,0⟩]=[v]/\v∈d.variables/\v∉d.typed:=fun c=>by
  have l2:dX d=2:=by unfold dX;rw[if_pos (Or.inr (by rw[c];rfl))]
  have h1:1<d.symbols.length:=by omega
  have g:=List.getElem?_eq_getElem h1;have hv:vp ⟨d.kind,d.label,d.symbols,d.proof,p,0⟩=d.symbols[1]:=by unfold vp;rw[List.getD_eq_getElem?_getD,g];rfl
  refine⟨_,g,hv,?_,(V.c2 c 1 _ g).2 (by omega)⟩;unfold pI;rw[List.filterMap_cons];unfold mD;rw[if_pos ⟨c,rfl⟩,hv];rfl
 have sub:∀x∈d.typed,x∈d'.typed:=fun x hx=>by rw[e8];simp[hx]
 have new:∀{n:Nat} {s:St},d'.sts[n]?=some s->(n<d.sts.length/\d.sts[n]?=some s)∨(n=d.sts.length/\s=⟨d.kind,d.label,d.symbols,d.proof,p,0⟩):=fun {n s} g=>by
  rw[e6]at g
  by_cases c:n<d.sts.length
  ·rw[List.getElem?_append_left c]at g;exact Or.inl ⟨c,g⟩
  ·have:=(List.getElem?_eq_some_iff.1 g).1
   rw[List.length_append,List.length_singleton]at this;have e:n=d.sts.length:=by omega
   subst e;rw[List.getElem?_append_right (Nat.le_refl _),Nat.sub_self]at g;exact Or.inr ⟨rfl,(Option.some.inj g).symm⟩
 have old:∀{n:Nat} {s:St},d.sts[n]?=some s->d'.sts[n]?=some s:=fun g=>by
  rw[e6,List.getElem?_append_left (List.getElem?_eq_some_iff.1 g).1];exact g
 refine⟨by rw[e1,e2];exact V.cv,by rw[e3,e2];exact V.av,by rw[e8,e6,sL,V.typ],?_,?_,by rw[e5,e7];exact V.len,?_,by rw[e7];exact V.ord,?_,?_,?_,?_,?_,?_,?_,?_,?_⟩
 ·intro x hx
  rw[e8]at hx;rw[e2]
  rcases List.mem_append.1 hx with hx | hx
  ·exact V.tv x hx
  ·by_cases c:d.kind=2
   ·obtain⟨v,-,-,v3,v4,-⟩:=two c
    rw[v3]at hx;rw[List.mem_singleton.1 hx];exact v4
   ·unfold pI at hx
    rw[List.filterMap_cons]at hx;unfold mD at hx;rw[if_neg (by rintro ⟨h,-⟩;exact c h)]at hx
    cases hx
 ·rw[e8]
  by_cases c:d.kind=2
  ·obtain⟨v,-,-,v3,-,v5⟩:=two c
   rw[v3];refine List.nodup_append.2 ⟨V.nd,by simp,?_⟩;intro a ha b hb e;rw[List.mem_singleton.1 hb]at e;exact v5 (e ▸ ha)
  ·have:pI [⟨d.kind,d.label,d.symbols,d.proof,p,0⟩]=[]:=by
    unfold pI;rw[List.filterMap_cons];unfold mD;rw[if_neg (by rintro ⟨h,-⟩;exact c h)];rfl
   rw[this,List.append_nil];exact V.nd
 ·intro i q b g1 g2
  rw[e5]at g1;rw[e7]at g2;obtain⟨r1,r2,r3⟩:=V.blk i q b g1 g2;rw[e6,e8];refine⟨by rw[List.length_append];omega,by rw[List.length_append];omega,?_⟩;rw[List.take_append_of_le_length r1,List.take_append_of_le_length r2,r3]
 ·rw[h];intro _ x hx;cases hx
 ·rw[h];intro _ x hx;cases hx
 ·rw[h];intro _ i x hx;cases hx
 ·rw[h];intro _ x hx;cases hx
 ·intro n s g k x hx
  rw[e1,e2]
  rcases new g with ⟨hn,g⟩ | ⟨rfl,rfl⟩
  ·rcases V.st n s g k x hx with a | ⟨a,b⟩
   ·exact Or.inl a
   ·refine Or.inr ⟨a,fun c=>?_⟩
    obtain⟨m,u,m1,m2,m3⟩:=b c;exact⟨m,u,m1,old m2,m3⟩
  ·simp only at k hx
   by_cases c:d.kind=2
   ·obtain⟨i,hi⟩:=List.getElem?_of_mem hx
    have:=V.c2 c i x hi
    by_cases c0:i=0
    ·exact Or.inl (this.1 c0)
    ·exact Or.inr ⟨(this.2 c0).1,fun h=>absurd c h⟩
   ·rcases V.c3 ⟨by omega,by omega⟩ x hx with a | ⟨a,b⟩
    ·exact Or.inl a
    ·refine Or.inr ⟨a,fun _=>?_⟩
     rw[V.typ]at b;obtain⟨m,u,m1,m2,m3,m4⟩:=yn.1 b;exact⟨m,u,(List.getElem?_eq_some_iff.1 m1).1,old m1,m2,m4,Or.inl m3⟩
 ·intro n m s u g1 g2 k1 k2 hnm ht
  rcases new g2 with ⟨hm,g2⟩ | ⟨rfl,rfl⟩
  ·rcases new g1 with ⟨hn,g1⟩ | ⟨rfl,rfl⟩
   ·exact V.ds n m s u g1 g2 k1 k2 hnm ht
   ·omega
  ·rcases new g1 with ⟨hn,g1⟩ | ⟨rfl,rfl⟩
   ·have h0:s.til=0:=by have:=V.til n s g1;omega
    obtain⟨v,-,v2,-,-,v5⟩:=two k2;rw[v2];intro e;exact v5 (by rw[V.typ];exact yn.2 ⟨n,s,g1,k1,h0,e⟩)
   ·omega
 ·intro n s g k
  rw[e2]
  rcases new g with ⟨hn,g⟩ | ⟨rfl,rfl⟩
  ·exact V.fl n s g k
  ·obtain⟨v,-,v2,-,v4,-⟩:=two k
   rw[v2];exact v4
 ·intro n s g
  rw[e6,List.length_append,List.length_singleton]
  rcases new g with ⟨hn,g⟩ | ⟨rfl,rfl⟩
  ·have:=V.til n s g;omega
  ·simp
 ·intro k h u s hkh g1 g2 ha h0 ht
  rcases new g2 with ⟨hm,g2⟩ | ⟨rfl,rfl⟩
  ·rcases new g1 with ⟨hn,g1⟩ | ⟨rfl,rfl⟩
   ·exact V.nest k h u s hkh g1 g2 ha h0 ht
   ·omega
  ·rcases new g1 with ⟨hn,g1⟩ | ⟨rfl,rfl⟩
   ·have:=V.til k u g1;omega
   ·omega
theorem Vr.fin{d:Db}(V:Vr d)(p:Pl):Vr (iK d p).2:=by
 unfold iK
 split
 ·exact V
 ·next hle =>
  split
  ·exact V
  ·unfold bX
   split
   ·next h7 =>
    have h7:d.kind=7:=by simpa using h7
    refine⟨?_,V.av,V.typ,V.tv,V.nd,V.len,V.blk,V.ord,(fun _ x hx=>by cases hx),(fun _ x hx=>by cases hx),(fun _ i x hx=>by cases hx),(fun _ x hx=>by cases hx),?_,V.ds,V.fl,V.til,V.nest⟩
    ·intro x hx
     rcases List.mem_append.1 hx with hx | hx
     ·exact V.cv x hx
     ·exact V.c7 h7 x hx
    ·intro n s g k x hx
     rcases V.st n s g k x hx with a | a
     ·exact Or.inl (List.mem_append_left _ a)
     ·exact Or.inr a
   ·split
    ·next h7 h8 =>
     have h8:d.kind=8:=by simpa using h8
     have mv:∀x,x∈(da d d.symbols.length).variables ↔ x∈d.variables∨x∈d.symbols:=fun x=>by
      show x∈bK d.variables (d.symbols.take d.symbols.length) ↔ _
      rw[List.take_length];exact Cj _ _ _
     refine⟨?_,?_,V.typ,fun x hx=>(mv x).2 (Or.inl (V.tv x hx)),V.nd,V.len,V.blk,V.ord,(fun _ x hx=>by cases hx),(fun _ x hx=>by cases hx),(fun _ i x hx=>by cases hx),(fun _ x hx=>by cases hx),?_,V.ds,fun n s g k=>(mv _).2 (Or.inl (V.fl n s g k)),V.til,V.nest⟩
     ·intro x hx hm
      rcases(mv x).1 hm with h | h
      ·exact V.cv x hx h
      ·exact V.c8 h8 x h hx
     ·intro x hx
      have hx:x∈d.active++d.symbols:=hx
      rcases List.mem_append.1 hx with hx | hx
      ·exact(mv x).2 (Or.inl (V.av x hx))
      ·exact(mv x).2 (Or.inr hx)
     ·intro n s g k x hx
      rcases V.st n s g k x hx with a | ⟨a,b⟩
      ·exact Or.inl a
      ·exact Or.inr ⟨(mv x).2 (Or.inl a),b⟩
    ·next h7 h8 =>
     have a7:d.kind≠7:=by simpa using h7
     have a8:d.kind≠8:=by simpa using h8
     have t:∀(q:Db),(cZ q).constants=q.constants/\(cZ q).variables=q.variables/\(cZ q).active=q.active/\(cZ q).blocks=q.blocks/\(cZ q).sts=q.sts/\(cZ q).rbl=q.rbl/\(cZ q).kind=q.kind/\(cZ q).label=q.label/\(cZ q).symbols=q.symbols/\(cZ q).proof=q.proof:=fun q=>by
      unfold cZ;split <;> simp
     obtain⟨t1,t2,t3,t4,t5,t6,t7,t8,t9,t10⟩:=t d;refine V.put p (by omega) t1 t2 t3 rfl t4 ?_ t6 rfl
     show(cZ d).sts++[⟨(cZ d).kind,(cZ d).label,(cZ d).symbols,(cZ d).proof,p,0⟩]=_
     rw[t5,t7,t8,t9,t10]
theorem Vr.take{d:Db}{P:ByteArray->Prop}(V:Vr d)(N:Nm P d)(x:ByteArray)(p:Pl):Vr (aS d x p).2:=by
 unfold aS
 split
 ·next h0=>exact V.first x (N.none (Or.inl (by simpa using h0)))
 ·next h0 =>
  split
  ·next h6=>exact V.keyword x (N.none (Or.inr (by simpa using h6)))
  ·next h6 =>
   split
   ·exact V.fin p
   ·split
    ·unfold bF
     split
     ·exact V
     ·exact⟨V.cv,V.av,V.typ,V.tv,V.nd,V.len,V.blk,V.ord,V.c7,V.c8,V.c2,V.c3,V.st,V.ds,V.fl,V.til,V.nest⟩
    ·split
     ·exact V
     ·split
      ·exact⟨V.cv,V.av,V.typ,V.tv,V.nd,V.len,V.blk,V.ord,V.c7,V.c8,V.c2,V.c3,V.st,V.ds,V.fl,V.til,V.nest⟩
      ·split
       ·next hc =>
        have hc0:aJ d x=0:=by simpa using hc
        unfold aJ at hc0;refine⟨V.cv,V.av,V.typ,V.tv,V.nd,V.len,V.blk,V.ord,?_,?_,?_,?_,V.st,V.ds,V.fl,V.til,V.nest⟩
        ·intro (k:d.kind=7) y hy
         rcases List.mem_append.1 hy with hy | hy
         ·exact V.c7 k y hy
         ·rw[List.mem_singleton.1 hy]
          rw[if_pos (by rw[k];rfl)]at hc0;intro hv;rw[if_pos (Or.inr (by unfold df;rw[(f9 _ _).2 hv];simp))]at hc0
          cases hc0
        ·intro (k:d.kind=8) y hy
         rcases List.mem_append.1 hy with hy | hy
         ·exact V.c8 k y hy
         ·rw[List.mem_singleton.1 hy]
          rw[if_neg (by rw[k];decide),if_pos (by rw[k];rfl)]at hc0;intro hv;rw[if_pos (Or.inr (by unfold du;rw[(f9 _ _).2 hv];simp))]at hc0
          cases hc0
        ·intro (k:d.kind=2) i y hy
         have hy:(d.symbols++[x])[i]?=some y:=hy
         by_cases c:i<d.symbols.length
         ·rw[List.getElem?_append_left c]at hy;exact V.c2 k i y hy
         ·have:=(List.getElem?_eq_some_iff.1 hy).1
          rw[List.length_append,List.length_singleton]at this;have e:i=d.symbols.length:=by omega
          subst e;rw[List.getElem?_append_right (Nat.le_refl _),Nat.sub_self]at hy;have e:=Option.some.inj hy;subst e;rw[if_neg (by rw[k];decide),if_neg (by rw[k];decide),if_neg (by rw[k];decide)]at hc0
          by_cases z:d.symbols.length=0
          ·rw[if_pos z]at hc0
           refine⟨fun _=>?_,fun h=>absurd z h⟩;unfold dA at hc0;refine(f9 _ _).1 ?_
           cases g:aZ d.constants x with
           | true=>rfl
           | false=>rw[if_pos g]at hc0;cases hc0
          ·rw[if_neg z,if_pos (by rw[k];rfl)]at hc0
           refine⟨fun h=>absurd h z,fun _=>?_⟩;unfold dz at hc0
           split at hc0
           ·cases hc0
           ·split at hc0
            ·cases hc0
            ·next ha =>
             split at hc0
             ·cases hc0
             ·next ht=>exact⟨V.av x ((f9 _ _).1 (by simpa using ha)),(FW _ _).1 (by simpa using ht)⟩
        ·intro (k:3<=d.kind/\d.kind<=5) y hy
         rcases List.mem_append.1 hy with hy | hy
         ·exact V.c3 k y hy
         ·rw[List.mem_singleton.1 hy]
          have n7:(d.kind==7)=false:=by rw[beq_eq_false_iff_ne];omega
          have n8:(d.kind==8)=false:=by rw[beq_eq_false_iff_ne];omega
          have n1:(d.kind==1)=false:=by rw[beq_eq_false_iff_ne];omega
          have n2:(d.kind==2)=false:=by rw[beq_eq_false_iff_ne];omega
          rw[if_neg (by rw[n7];simp),if_neg (by rw[n8];simp),if_neg (by rw[n1];simp)]at hc0
          by_cases z:d.symbols.length=0
          ·rw[if_pos z]at hc0
           unfold dA at hc0;refine Or.inl ((f9 _ _).1 ?_)
           cases g:aZ d.constants x with
           | true=>rfl
           | false=>rw[if_pos g]at hc0;cases hc0
          ·rw[if_neg z,if_neg (by rw[n2];simp)]at hc0
           unfold dt at hc0
           split at hc0
           ·next hC=>exact Or.inl ((f9 _ _).1 hC)
           ·split at hc0
            ·cases hc0
            ·next ha =>
             split at hc0
             ·cases hc0
             ·next ht=>exact Or.inr ⟨V.av x ((f9 _ _).1 (by simpa using ha)),(f9 _ _).1 (by simpa using ht)⟩
       ·exact V
theorem zV{P:ByteArray->Prop}(n s:ByteArray)(hP:∀k,k<=s.size->aA (ak s k).1=true->dh (ak s k).1.text=false->P (ak s k).1.text)(f:Nat):∀k d,k<=s.size->Nm P d->Vr d->Vr (dl n s f k d).2:=by
 induction f with
 | zero=>intro k d _ _ h;exact h
 | succ f ih =>
  intro k d hk h V;have hl:=cT s k hk;rw[dl]
  split
  ·next hw =>
   split
   ·exact ih _ _ hl.2.1 (h.take _ _ (hP k hk hw)) (V.take h _ _)
   ·exact V.take h _ _
  ·split
   ·split <;> exact V
   ·exact V
theorem CF(T:ByteArray):Vr (bC T).2:=zV _ T (fun k hk h hd=>pE T k hk h hd) _ 0 _ (Nat.zero_le _) Nm.empty Vr.empty
def hQ(s:ByteArray):Nat->List ByteArray×Nat
 | 0=>([],0)
 | i+1=>if(aw s i==32)=true then((hQ s i).1++[s.extract (hQ s i).2 i],i+1) else hQ s i
def aN(s:ByteArray):List ByteArray:=(hQ s s.size).1++[s.extract (hQ s s.size).2 s.size]
theorem kI(s:ByteArray)(i:Nat)(h:(aw s i==32)=true):hQ s (i+1)=((hQ s i).1++[s.extract (hQ s i).2 i],i+1):=by rw[hQ,if_pos h]
theorem lk(s:ByteArray)(i:Nat)(h:(aw s i==32)=false):hQ s (i+1)=hQ s i:=by rw[hQ,if_neg (by rw[h];simp)]
theorem yC(s:ByteArray)(i:Nat):(hQ s i).2<=i/\(hQ s i).1.length<=i:=by
 induction i with
 | zero=>simp[hQ]
 | succ i ih =>
  cases h:(aw s i==32)
  ·rw[lk s i h];omega
  ·rw[kI s i h];simp;omega
def hZ(x:ByteArray):Prop:=∀i,i<x.size->(aw x i==32)=false
theorem Wd.noBl{x:ByteArray}(h:Wd x):hZ x:=by
 intro i hi;have:=(h.2 i hi).1
 cases e:(aw x i==32)
 ·rfl
 ·have e':aw x i=32:=by simpa using e
  rw[e']at this
  revert this;decide
theorem rP(x:ByteArray)(h:hZ x):aN x=[x]:=by
 have:∀i,i<=x.size->hQ x i=([],0):=by
  intro i
  induction i with
  | zero=>intro _;rfl
  | succ i ih=>intro hi;rw[lk x i (h i (by omega))];exact ih (by omega)
 unfold aN;rw[this x.size (Nat.le_refl _)];simp
theorem mn(t u:ByteArray)(a z:Nat)(hz:z<=t.size):(t++u).extract a z=t.extract a z:=by
 apply ByteArray.ext_getElem
 ·simp only[ByteArray.size_extract,ByteArray.size_append];omega
 ·intro i h1 h2
  rw[ByteArray.getElem_extract,ByteArray.getElem_extract,ByteArray.getElem_append_left]
theorem kO:(⟨#[32]⟩:ByteArray).size=1:=rfl
theorem jJ(t x:ByteArray)(h:hZ x):aN (t++(⟨#[32]⟩++x))=aN t++[x]:=by
 have e1:∀i,i<=t.size->hQ (t++(⟨#[32]⟩++x)) i=hQ t i:=by
  intro i
  induction i with
  | zero=>intro _;rfl
  | succ i ih =>
   intro hi;have ih:=ih (by omega);have hb:=dy t (⟨#[32]⟩++x) i (by omega)
   cases hc:(aw t i==32)
   ·rw[lk _ i (by rw[hb];exact hc),lk t i hc,ih]
   ·rw[kI _ i (by rw[hb];exact hc),kI t i hc,ih,mn _ _ _ _ (by omega)]
 have hs:(t++(⟨#[32]⟩++x)).size=t.size+1+x.size:=by simp only[ByteArray.size_append,kO];omega
 have hb0:aw (t++(⟨#[32]⟩++x)) t.size=32:=by
  have:=dd t (⟨#[32]⟩++x) 0 (by simp only[ByteArray.size_append,kO];omega);rw[Nat.add_zero]at this;rw[this,dy _ _ 0 (by rw[kO];omega)];decide +kernel
 have hbr:∀i,i<x.size->aw (t++(⟨#[32]⟩++x)) (t.size+1+i)=aw x i:=by
  intro i hi;have:=dd t (⟨#[32]⟩++x) (1+i) (by simp only[ByteArray.size_append,kO];omega);rw[show t.size+1+i=t.size+(1+i) by omega,this];have h2:=dd (⟨#[32]⟩:ByteArray) x i hi;rw[kO]at h2;exact h2
 have e2:∀i,i<=x.size->hQ (t++(⟨#[32]⟩++x)) (t.size+1+i)=(aN t,t.size+1):=by
  intro i
  induction i with
  | zero =>
   intro _;rw[Nat.add_zero,kI _ t.size (by rw[hb0];rfl),e1 _ (Nat.le_refl _),mn _ _ _ _ (Nat.le_refl _)];rfl
  | succ i ih =>
   intro hi;rw[show t.size+1+(i+1)=(t.size+1+i)+1 by omega,lk _ _ (by rw[hbr i (by omega)];exact h i (by omega))];exact ih (by omega)
 conv=>lhs;unfold aN
 rw[hs,e2 x.size (Nat.le_refl _)];simp only
 congr 2
 apply ByteArray.ext_getElem
 ·simp only[ByteArray.size_extract,hs];omega
 ·intro i h1 h2
  rw[ByteArray.getElem_extract];have hbi:=hbr i h2;rw[aU _ _ (by rw[hs];omega),aU _ _ h2]at hbi;exact UInt8.toNat_inj.1 (by omega)
theorem qK(s:St)(hl:hZ s.label)(hx:∀x∈s.symbols,hZ x)(k:Nat)(hk:k<=s.symbols.length):aN (iA s k)=s.label :: eO s.kind :: s.symbols.take k:=by
 induction k with
 | zero =>
  unfold iA;simp only[List.take_zero,List.foldl_nil];rw[ByteArray.append_assoc,jJ _ _ ?_,rP _ hl]
  ·rfl
  ·unfold eO
   repeat' split
   all_goals (intro i hi;have h2:i<2:=hi;match i,h2 with | 0,_=>decide +kernel | 1,_=>decide +kernel)
 | succ k ih =>
  rw[kj s k (by omega),jJ _ _ (hx _ (List.getElem_mem _)),ih (by omega),dv s.symbols k (by omega)];simp
theorem xj(s:St)(hl:hZ s.label)(hx:∀x∈s.symbols,hZ x):aN (dK s)=s.label :: eO s.kind :: s.symbols:=by
 unfold dK;rw[qK s hl hx _ (Nat.le_refl _),List.take_length]
set_option maxRecDepth 100000 in
theorem Ao(s:ByteArray)(w:World)(hs:s.size<=1073741824) :
  Calls Tryz.prog 49 #[.string s] w fun e w'=>∃hd:Hd,e=.returned (.slice hd.ao (aN s).length hd.cap)/\au w' hd (am (aN s))/\(∀x,hd.blk=some x->w.heap.size<=x)/\aa [] w w':=by
 obtain⟨i0,hi,hz0,hz1,hz2⟩:=info_parts dp;go_enter Tryz.func49,Tryz.ntmps49;go_wp2
 go_loopg [3,4,5] s.size (fun gk sv fv i wr=>∃(k:Nat) (hd:Hd),k<=s.size/\gk=s.size-k/\i=.int .i64 k/\fv=.int .i64 (hQ s k).2/\sv=.slice hd.ao (hQ s k).1.length hd.cap/\au wr hd (am (hQ s k).1)/\(∀x,hd.blk=some x->w.heap.size<=x)/\aa [] w wr)
 case atStart=>exact⟨0,⟨none,0⟩,by omega,by omega,rfl,rfl,rfl,World.ownsRow_nil _ _ _ _,by intro x hx;simp[Hd.blk]at hx,aa.refl _ _⟩
 case round =>
  obtain⟨k,hd,hk,hg,rfl,rfl,rfl,hO,hN,hK⟩:=hrel;have hle:=yC s k
  by_cases hlt:k<s.size
  ·have HY:=(show Hid _ from kI s k)
   have HN0:=(show Hid _ from lk s k);rw[aU s k hlt]at HY HN0;generalize hsp:hQ s k=sp at *;obtain⟨out,from_⟩:=sp;simp only at hle hO HY HN0 ⊢;have hfk:(from_:Int)<=k:=by omega
   cases hb:(((s[k]'hlt).toNat:Int)==32)
   ·have HT:=(show Hid _ from HN0.out hb)
    clear HY HN0
    have hb':(s[k]'hlt==32)=false:=by
     cases e:(s[k]'hlt==32)
     ·rfl
     ·have e2:s[k]'hlt=32:=by simpa using e
      rw[e2]at hb;revert hb;decide
    go_wp2
    go_roundg (s.size-(k+1))
    case measure=>omega
    case rel=>exact⟨k+1,hd,by omega,rfl,by go_num,by rw[HT.out],by rw[HT.out],by rw[HT.out];exact hO,hN,hK⟩
   ·have HT:=(show Hid _ from HY.out hb)
    clear HY HN0
    have hb':(s[k]'hlt==32)=true:=by
     have e2:((s[k]'hlt).toNat:Int)=32:=by simpa using hb
     have:s[k]'hlt=32:=UInt8.toNat_inj.1 (by simp;omega);rw[this];rfl
    have hO4:au (wr.alloc (.cells #[.string (s.extract from_ k)] 9)) hd (am out):=hO.moved (fun x hx=>((aa.refl [] wr).alloc _).block x (hO.lt hx) (by simp));go_wp2_with (at_builtin;refine ay _ rfl (.tmp 16) (.tmp 21) 22 rfl i0 (.string ⟨#[]⟩) 16 hd (am out) Tryz.underlying22 hi hz0 hz1 hz2 rfl Nat.one_pos rfl (by exact hO4) ⟨_,0,none⟩ 1 1 [.string (s.extract from_ k)] rfl rfl ?d1 ?d2 Nat.one_pos ?d3 ?d4 ?_)
    case d1=>intro j u hj;match j,hj with | 0,hj=>simp at hj;subst hj;simp[Addr.add]
    case d2=>intro u hu;simp at hu;subst hu;rfl
    case d3=>simp only[am];unfold maxLen;omega
    case d4=>simp only[am];omega
    intro g5 cap5 w5 hw5 hgr5 hfresh5;rw[bE out (s.extract from_ k)]at hw5;have hK4:=hK.alloc (.cells #[.string (s.extract from_ k)] 9);have hK5:=hK4.grown hgr5 hN
    have hg5:w.heap.size<=g5:=by
     rcases hfresh5 with e | e
     ·exact hN g5 e
     ·have:=hK4.size;simp at e this;omega
    have hEl:Hid ((am out).n+1=(out++[s.extract from_ k]).length):=by show _=_;simp[am]
    rw[hEl.out];clear hgr5 hfresh5 hO4;go_wp2
    go_roundg (s.size-(k+1))
    case measure=>omega
    case rel=>exact⟨k+1,⟨some ⟨g5,0,none⟩,cap5⟩,by omega,rfl,by go_num,by rw[HT.out];go_num,by rw[HT.out],by rw[HT.out];exact hw5,by intro x hx;simp[Hd.blk]at hx;omega,hK5⟩
  ·have e:k=s.size:=by omega
   subst e;have HE:Hid (aN s=(hQ s s.size).1++[s.extract (hQ s s.size).2 s.size]):=rfl;generalize hQ s s.size=sp at *;obtain⟨out,from_⟩:=sp;simp only at hle hO HE ⊢;have hfk:(from_:Int)<=s.size:=by omega
   have hO4:au (wr.alloc (.cells #[.string (s.extract from_ s.size)] 9)) hd (am out):=hO.moved (fun x hx=>((aa.refl [] wr).alloc _).block x (hO.lt hx) (by simp));go_wp2_with (at_builtin;refine ay _ rfl (.tmp 25) (.tmp 29) 22 rfl i0 (.string ⟨#[]⟩) 16 hd (am out) Tryz.underlying22 hi hz0 hz1 hz2 rfl Nat.one_pos rfl (by exact hO4) ⟨_,0,none⟩ 1 1 [.string (s.extract from_ s.size)] rfl rfl ?d1 ?d2 Nat.one_pos ?d3 ?d4 ?_)
   case d1=>intro j u hj;match j,hj with | 0,hj=>simp at hj;subst hj;simp[Addr.add]
   case d2=>intro u hu;simp at hu;subst hu;rfl
   case d3=>simp only[am];unfold maxLen;omega
   case d4=>simp only[am];omega
   intro g5 cap5 w5 hw5 hgr5 hfresh5;rw[bE out (s.extract from_ s.size)]at hw5;have hK4:=hK.alloc (.cells #[.string (s.extract from_ s.size)] 9);have hK5:=hK4.grown hgr5 hN
   have hg5:w.heap.size<=g5:=by
    rcases hfresh5 with e | e
    ·exact hN g5 e
    ·have:=hK4.size;simp at e this;omega
   have hEl:Hid ((am out).n+1=(out++[s.extract from_ s.size]).length):=by show _=_;simp[am]
   rw[hEl.out];clear hgr5 hfresh5 hO4;go_wp2;go_ret;rw[HE.out];exact⟨⟨some ⟨g5,0,none⟩,cap5⟩,rfl,hw5,by intro x hx;simp[Hd.blk]at hx;omega,hK5⟩
structure Fm where
 hyps:List ByteArray
 which:List Int
 vars:List ByteArray
 types:List ByteArray
 ess:List (List ByteArray)
 left:List ByteArray
 right:List ByteArray
 goal:List ByteArray
def ua:Fm:=⟨[],[],[],[],[],[],[],[]⟩
def F3(ws:List ByteArray):Bool:=(gD ws 0).toList == [36,100]
def gd(ws:List ByteArray)(c:UInt8):Bool:=(gD ws 1).toList == [36,c]
def bG(f:Fm)(ws:List ByteArray):Fm :=
 if F3 ws=true then { f with left:=f.left++[gD ws 1],right:=f.right++[gD ws 2] }
 else if gd ws 102=true/\ws.length=4 then { f with hyps:=f.hyps++[gD ws 0],which:=f.which++[(f.vars.length:Int)],types:=f.types++[gD ws 2],vars:=f.vars++[gD ws 3] }
 else if gd ws 101=true then { f with hyps:=f.hyps++[gD ws 0],which:=f.which++[-1-(f.ess.length:Int)],ess:=f.ess++[ws.drop 2] }
 else { f with goal:=ws.drop 2 }
def fy(L:List ByteArray)(k:Nat):Fm:=(L.take k).foldl (fun f x=>bG f (aN x)) ua
theorem nN(L:List ByteArray)(k:Nat)(h:k<L.length):fy L (k+1)=bG (fy L k) (aN L[k]):=by
 unfold fy;rw[dv L k h,List.foldl_append];rfl
def cP(L:List ByteArray):Fm:=fy L L.length
structure oA(lab:ByteArray)(last:Bool)(x:ByteArray):Prop where
 size:x.size<=1073741824
 len:3<=(aN x).length
 way:F3 (aN x)=true∨(F3 (aN x)=false/\((gd (aN x) 102=true/\(aN x).length=4)∨(gd (aN x) 102=false/\(gd (aN x) 101=true∨(gd (aN x) 101=false/\(gd (aN x) 97=true∨gd (aN x) 112=true)/\((gD (aN x) 0).toList==lab.toList)=true/\last=true)))))
def eB(l:List Int):eI:=⟨3,1,l.length,l.map (Value.int .i64)⟩
theorem ld(l:List Int)(x:Int):(⟨(eB l).e,(eB l).size,(eB l).n+1,(eB l).xs++[.int .i64 x]⟩:eI)=eB (l++[x]):=by simp[eB]
def tr(lab:ByteArray)(lv:Value)(f:Fm)(es:List Ex)(hg:Hd)(H:Nat->Hd):List Value :=
 [.string lab,lv,.slice (H 0).ao f.hyps.length (H 0).cap,.slice (H 1).ao f.which.length (H 1).cap,.slice (H 2).ao f.vars.length (H 2).cap,.slice (H 3).ao f.types.length (H 3).cap,.slice (H 4).ao es.length (H 4).cap,.slice (H 5).ao f.left.length (H 5).cap,.slice (H 6).ao f.right.length (H 6).cap,.slice hg.ao f.goal.length hg.cap]
def EZ(f:Fm)(es:List Ex):Nat->eI
 | 0=>am f.hyps
 | 1=>eB f.which
 | 2=>am f.vars
 | 3=>am f.types
 | 4=>cE es
 | 5=>am f.left
 | 6=>am f.right
 | _+7=>am []
structure eJ(w:World)(F n:Nat)(lab:ByteArray)(lv:Value)(f:Fm)(es:List Ex)(hg:Hd)(H:Nat->Hd):Prop where
 bag:af w F 71 (tr lab lv f es hg H) (EZ f es) H
 new:n<=F/\∀k,cK H k->n<=k
 exs:∀e∈es,mS w F H e
 ess:es.map (·.xs)=f.ess
 gl:bH w hg f.goal/\∀x,hg.blk=some x->x<w.heap.size/\x≠F/\¬cK H x
theorem eJ.still{w w':World}{F n:Nat}{lab:ByteArray}{lv:Value}{f:Fm}{es:List Ex}{hg:Hd}{H:Nat->Hd}(h:eJ w F n lab lv f es hg H)(k:aa [] w w'):eJ w' F n lab lv f es hg H :=
 ⟨h.bag.still k,h.new,fun e he=>(h.exs e he).still k,h.ess,h.gl.1.still k,fun x hx=>⟨Nat.lt_of_lt_of_le (h.gl.2 x hx).1 k.size,(h.gl.2 x hx).2⟩⟩
theorem eJ.app{w w1:World}{F n:Nat}{lab:ByteArray}{lv:Value}{f f':Fm}{es es':List Ex}{hg:Hd}{H:Nat->Hd}(h:eJ w F n lab lv f es hg H)(hn:n<=w.heap.size)(c i g cap' m:Nat)(r:eI)
  (hw1:au w1 ⟨some ⟨g,0,none⟩,cap'⟩ r) (hr:r=EZ f' es' i) (hgr:w.grownBy w1 (H i).blk) (hfresh:(H i).blk=some g∨w.heap.size<=g)
  (hrow:∀j,j≠i->EZ f' es' j=EZ f es j) (v0:Value) (hv:(tr lab lv f es hg H)[c]?=some v0) (hl:(tr lab lv f es hg H).set c (.slice (some ⟨g,0,none⟩) m cap')=tr lab lv f' es' hg (cG H i ⟨some ⟨g,0,none⟩,cap'⟩))
  (hex:∀e∈es',mS w F H e) (hes:es'.map (·.xs)=f'.ess) (hgo:f'.goal=f.goal) :
  w1.cell? ⟨F,c,none⟩=some v0/\w1.frozen? ⟨F,c,none⟩=false /\
  Hid (eJ (w1.setCell ⟨F,c,none⟩ (.slice (some ⟨g,0,none⟩) m cap')) F n lab lv f' es' hg (cG H i ⟨some ⟨g,0,none⟩,cap'⟩) /\
   ag F w H (w1.setCell ⟨F,c,none⟩ (.slice (some ⟨g,0,none⟩) m cap')) (cG H i ⟨some ⟨g,0,none⟩,cap'⟩)):=by
 obtain⟨a1,a2,a3⟩:=h.bag.app (rows':=EZ f' es') c i g cap' m r hw1 hr hgr hfresh hrow v0 hv hl;obtain⟨b1,b2⟩:=a3.out;refine⟨a1,a2,⟨⟨b1,⟨h.new.1,?_⟩,fun e he=>(hex e he).turned b2,hes,?_,?_⟩,b2⟩⟩
 ·intro k hk
  rcases b2.2 k hk with hk | hk
  ·exact h.new.2 k hk
  ·omega
 ·rw[hgo]
  refine h.gl.1.keptP b2.1 (fun x hx=>?_);obtain⟨_,h2,h3⟩:=h.gl.2 x hx;rintro (e | e)
  ·exact h2 e
  ·exact h3 e
 ·intro x hx
  obtain⟨h1,h2,h3⟩:=h.gl.2 x hx;exact⟨Nat.lt_of_lt_of_le h1 b2.1.size,h2,b2.fresh x h1 h3⟩
theorem aa.turned{w w1 w2:World}{F:Nat}{H H':Nat->Hd}(k:aa [] w w1)(t:ag F w1 H w2 H')(hF:w.heap.size<=F)(hH:∀x,cK H x->w.heap.size<=x):aa [] w w2 :=
 ⟨t.1.os.trans k.os,t.1.tape.trans k.tape,t.1.output.trans k.output,Nat.le_trans k.size t.1.size,fun i hi _=>(t.1.block i (Nat.lt_of_lt_of_le hi k.size) (fun q=>q.elim (fun e=>by omega) (fun e=>by have:=hH i e;omega))).trans (k.block i hi (by simp))⟩
theorem eJ.goal{w:World}{F n:Nat}{lab:ByteArray}{lv:Value}{f:Fm}{es:List Ex}{hg:Hd}{H:Nat->Hd}(h:eJ w F n lab lv f es hg H)(g':List ByteArray)(hg':Hd)(hv:bH w hg' g')(hf:∀x,hg'.blk=some x->x<w.heap.size/\x≠F/\¬cK H x) :
  eJ (w.setCell ⟨F,9,none⟩ (.slice hg'.ao g'.length hg'.cap)) F n lab lv { f with goal:=g' } es hg' H/\ag F w H (w.setCell ⟨F,9,none⟩ (.slice hg'.ao g'.length hg'.cap)) H:=by
 obtain⟨b1,b2⟩:=h.bag.set 9 (.slice hg'.ao g'.length hg'.cap);refine⟨⟨b1,h.new,fun e he=>(h.exs e he).turned b2,h.ess,?_,?_⟩,b2⟩
 ·refine hv.keptP b2.1 (fun x hx=>?_)
  obtain⟨_,h2,h3⟩:=hf x hx;rintro (e | e)
  ·exact h2 e
  ·exact h3 e
 ·intro x hx
  obtain⟨h1,h2,h3⟩:=hf x hx;exact⟨Nat.lt_of_lt_of_le h1 b2.1.size,h2,h3⟩
structure dg(w0 w:World)(F g:Nat)(lab:ByteArray)(L:List ByteArray)(f:Fm)(es:List Ex)(hg:Hd)(H:Nat->Hd)(gt tc:Nat)(ws:List ByteArray):Prop where
 fm:eJ w F w0.heap.size lab (.slice (some ⟨g,0,none⟩) L.length L.length) f es hg H
 lns:eQ w g L L.length
 gf:w0.heap.size<=g/\g≠F/\¬cK H g
 tw:au w ⟨some ⟨gt,0,none⟩,tc⟩ (am ws)
 tf:gt≠F/\¬cK H gt
 kept:aa [] w0 w
theorem dg.still{w0 w w':World}{F g:Nat}{lab:ByteArray}{L:List ByteArray}{f:Fm}{es:List Ex}{hg:Hd}{H:Nat->Hd}{gt tc:Nat}{ws:List ByteArray}(h:dg w0 w F g lab L f es hg H gt tc ws)(k:aa [] w w'):dg w0 w' F g lab L f es hg H gt tc ws :=
 ⟨h.fm.still k,h.lns.kept k (by simp),h.gf,h.tw.moved (fun x hx=>k.block x (h.tw.lt hx) (by simp)),h.tf,h.kept.trans k⟩
theorem dg.turn{w0 w w':World}{F g:Nat}{lab:ByteArray}{L:List ByteArray}{f f':Fm}{es es':List Ex}{hg hg':Hd}{H H':Nat->Hd}{gt tc:Nat}{ws:List ByteArray}(h:dg w0 w F g lab L f es hg H gt tc ws)
  (b:eJ w' F w0.heap.size lab (.slice (some ⟨g,0,none⟩) L.length L.length) f' es' hg' H') (t:ag F w H w' H'):dg w0 w' F g lab L f' es' hg' H' gt tc ws:=by
 have hgl:=ac h.lns;have htl:=h.tw.lt (k:=gt) rfl;refine⟨b,?_,⟨h.gf.1,h.gf.2.1,t.fresh g hgl h.gf.2.2⟩,?_,⟨h.tf.1,t.fresh gt htl h.tf.2⟩,h.kept.turned t h.fm.new.1 h.fm.new.2⟩
 ·exact t.1.get h.lns (by rintro (e | e);exact h.gf.2.1 e;exact h.gf.2.2 e)
 ·refine h.tw.moved (fun x hx=>t.1.block x (h.tw.lt hx) ?_)
  have e:x=gt:=by simp[Hd.blk]at hx;exact hx.symm
  subst e;rintro (e | e)
  ·exact h.tf.1 e
  ·exact h.tf.2 e
theorem dg.app{w0 w w1:World}{F g:Nat}{lab:ByteArray}{L:List ByteArray}{f f':Fm}{es es':List Ex}{hg:Hd}{H:Nat->Hd}{gt tc:Nat}{ws:List ByteArray}(h:dg w0 w F g lab L f es hg H gt tc ws)(c i g5 cap' m:Nat)(r:eI)
  (hw1:au w1 ⟨some ⟨g5,0,none⟩,cap'⟩ r) (hr:r=EZ f' es' i) (hgr:w.grownBy w1 (H i).blk) (hfresh:(H i).blk=some g5∨w.heap.size<=g5)
  (hrow:∀j,j≠i->EZ f' es' j=EZ f es j) (v0:Value) (hv:(tr lab (.slice (some ⟨g,0,none⟩) L.length L.length) f es hg H)[c]?=some v0) (hl:(tr lab (.slice (some ⟨g,0,none⟩) L.length L.length) f es hg H).set c (.slice (some ⟨g5,0,none⟩) m cap')=tr lab (.slice (some ⟨g,0,none⟩) L.length L.length) f' es' hg (cG H i ⟨some ⟨g5,0,none⟩,cap'⟩))
  (hex:∀e∈es',mS w F H e) (hes:es'.map (·.xs)=f'.ess) (hgo:f'.goal=f.goal) :
  w1.cell? ⟨F,c,none⟩=some v0/\w1.frozen? ⟨F,c,none⟩=false /\
  Hid (dg w0 (w1.setCell ⟨F,c,none⟩ (.slice (some ⟨g5,0,none⟩) m cap')) F g lab L f' es' hg (cG H i ⟨some ⟨g5,0,none⟩,cap'⟩) gt tc ws):=by
 obtain⟨a1,a2,a3⟩:=h.fm.app h.kept.size c i g5 cap' m r hw1 hr hgr hfresh hrow v0 hv hl hex hes hgo;exact⟨a1,a2,h.turn a3.out.1 a3.out.2⟩
theorem dg.word{w0 w:World}{F g:Nat}{lab:ByteArray}{L:List ByteArray}{f:Fm}{es:List Ex}{hg:Hd}{H:Nat->Hd}{gt tc:Nat}{ws:List ByteArray}(h:dg w0 w F g lab L f es hg H gt tc ws)(j:Nat)(x:ByteArray)(hj:ws[j]?=some x):w.cell? ⟨gt,j,none⟩=some (.string x) :=
 h.tw.cell rfl j (.string x) (by simp[am,strs,hj])
theorem dg.cell{w0 w:World}{F g:Nat}{lab:ByteArray}{L:List ByteArray}{f:Fm}{es:List Ex}{hg:Hd}{H:Nat->Hd}{gt tc:Nat}{ws:List ByteArray}(h:dg w0 w F g lab L f es hg H gt tc ws)(i:Nat)(v:Value)(hv:(tr lab (.slice (some ⟨g,0,none⟩) L.length L.length) f es hg H)[i]?=some v):w.cell? ⟨F,i,none⟩=some v:=by
 rw[h.fm.bag.cell];exact hv
theorem dg.lts{w0 w:World}{F g:Nat}{lab:ByteArray}{L:List ByteArray}{f:Fm}{es:List Ex}{hg:Hd}{H:Nat->Hd}{gt tc:Nat}{ws:List ByteArray}(h:dg w0 w F g lab L f es hg H gt tc ws):F<w.heap.size/\gt<w.heap.size/\g<w.heap.size:=⟨h.fm.bag.lt,h.tw.lt (k:=gt) rfl,ac h.lns⟩
theorem dg.rest{w0 w:World}{F g:Nat}{lab:ByteArray}{L:List ByteArray}{f:Fm}{es:List Ex}{hg:Hd}{H:Nat->Hd}{gt tc:Nat}{ws:List ByteArray}(h:dg w0 w F g lab L f es hg H gt tc ws):mS w F H ⟨⟨some ⟨gt,2,none⟩,tc-2⟩,ws.drop 2⟩:=by
 have hv:=h.tw.view;refine⟨?_,⟨_,rfl⟩,fun x hx=>?_⟩
 ·rcases hv with hn | ⟨g',off,cur,t,e1,e2,e3,e4,e5⟩
  ·left;rw[hn];rfl
  ·right
   cases e1
   refine⟨gt,2,cur,t,rfl,e2,?_,?_,?_⟩
   ·intro j x hj
    rw[List.getElem?_drop]at hj;have:=e3 (2+j) x hj;rw[Nat.zero_add]at this;exact this
   ·simp only[List.length_drop]
    have:ws.length<=tc:=e4;omega
   ·have:tc<=9223372036854775807:=e5
    show tc-2<=_
    omega
 ·have e:x=gt:=by simp[Hd.blk]at hx;exact hx.symm
  subst e;exact⟨h.lts.2.1,h.tf⟩
def dQ(n:Nat):Code->Option Code
 | .region id ops d=>match Nat.beq id n with
  | true=>some (.region id ops d)
  | false=>none
 | .seq a b=>match dQ n a with
  | some c=>some c
  | none=>dQ n b
 | .cond _ a b=>match dQ n a with
  | some c=>some c
  | none=>dQ n b
 | .block _ c=>dQ n c
 | .loop c=>dQ n c
 | .scope c=>dQ n c
 | _=>none
def qn(gt tc:Nat)(r:List ByteArray):Ex:=⟨⟨some ⟨gt,2,none⟩,tc-2⟩,r⟩
theorem jL{P:Program}{c:Code}{K:Act->World->Prop}{Q:Exit->Act->World->Prop}{a:Act}{w:World}(h:Code.wp P c (Exit.then K (fun _ _ _=>False)) a w):Code.wp P c (Exit.then K Q) a w:=by
 refine wp_mono h ?_;intro e a' w' hq
 cases e with
 | normal=>exact hq
 | exit id=>exact hq.elim
 | goto l=>exact hq.elim
 | ret=>exact hq.elim
 | panic ch=>exact hq.elim
 | outgrown=>exact hq.elim
theorem rW{P:Program}{c:Code}{K:Act->World->Prop}{Q:Exit->Act->World->Prop}{a:Act}{w:World}(h:Code.wp P c (Exit.then K (fun _ _ _=>False)) a w)(hq:∀a' w',K a' w'->Q .normal a' w'):Code.wp P c Q a w:=by
 refine wp_mono h ?_;intro e a' w' q
 cases e with
 | normal=>exact hq _ _ q
 | exit id=>exact q.elim
 | goto l=>exact q.elim
 | ret=>exact q.elim
 | panic ch=>exact q.elim
 | outgrown=>exact q.elim
set_option maxRecDepth 1000000 in
theorem Gc(w wc:World)(F g:Nat)(lab:ByteArray)(L:List ByteArray)(hy:List ByteArray)(wh:List Int)(va ty:List ByteArray)(ess:List (List ByteArray))(le ri go:List ByteArray)(es:List Ex)(hg:Hd)(H:Nat->Hd)(gt tc nw:Nat)(ws:List ByteArray)(x:ByteArray)(hx:ws[1]?=some x)(hjn:1<nw)(hb:le.length<=300000000)
  (S:Hid (dg w wc F g lab L ⟨hy,wh,va,ty,ess,le,ri,go⟩ es hg H gt tc ws)) (u0 u1 u2 u3 u4 u5 u7 u8 u9 u11 u12 u13 u14 u15 u16 u17 u18 u19 u20 u21 u22 u23 u24 u25 u26 u27 u28 u29 u30 u31 u32 u33 u34 u35 u36 u37 u38 u39 u40 u41 u42 u43 u44 u45 u46 u47 u48 u49 u50 u51 u52 u53 u54 u55 u56 u57 u58 u59 u60 u61 u62 u63 u64 u65 u66 u67 u68 u69 u70 u71 u72 u73 u74 u75 u76 u77 u78 u79 u80 u81 u82 u83 u84 u85 u86 u87 u88 u89 u90 u91 u92 u93 u94 u95 u96 u97 u98 u99 u100 u101 u102 u103 u104 u105 u106 u107 u108 u109 u110 u111 u112 u113 u114 u115 u116 u117 u118 u119 u120 u121 u122 u123 u124 u125 u126 u127 u128 u129 u130 u131 u132 u133 u134 u135 u136 u137 u138 u139 u140 u141 u142 u143 u144 u145 u146 u147 u148 u149 u150 u151 u152 u153 u154 u155 u156 u157 u158 u159 u160 u161 u162 u163 u164 u165 u166 u167 u168 u169 u170 u171 u172 u173 u174 u175 u176 u177 u178 u179 u180 u181 u182 u183 u184 u185 u186 u187 u188 u189 u190 u191 u192 u193 u194 u195 u196 u197 u198 u199 u200 u201 u202 u203 u204 u205 u206 u207 u208 u209 u210 u211 u212 u213 u214 u215 u216 u217 u218 u219 u220 u221:Value) (J K:Act->World->Prop)
  (hJ:∀a' w',(∃v57 v58 v59 v60 v61 v62 v63 v64 v65 v66 v67 v68:Value,(∃H',dg w w' F g lab L ⟨hy,wh,va,ty,ess,le++[x],ri,go⟩ es hg H' gt tc ws)/\a'=⟨#[u0,u1,u2,u3,u4,u5,.pointer (some ⟨F,0,none⟩),u7,u8,u9,.slice (some ⟨gt,0,none⟩) nw tc,u11,u12,u13,u14,u15,u16,u17,u18,u19,u20,u21,u22,u23,u24,u25,u26,u27,u28,u29,u30,u31,u32,u33,u34,u35,u36,u37,u38,u39,u40,u41,u42,u43,u44,u45,u46,u47,u48,u49,u50,u51,u52,u53,u54,u55,u56,v57,v58,v59,v60,v61,v62,v63,v64,v65,v66,v67,v68,u69,u70,u71,u72,u73,u74,u75,u76,u77,u78,u79,u80,u81,u82,u83,u84,u85,u86,u87,u88,u89,u90,u91,u92,u93,u94,u95,u96,u97,u98,u99,u100,u101,u102,u103,u104,u105,u106,u107,u108,u109,u110,u111,u112,u113,u114,u115,u116,u117,u118,u119,u120,u121,u122,u123,u124,u125,u126,u127,u128,u129,u130,u131,u132,u133,u134,u135,u136,u137,u138,u139,u140,u141,u142,u143,u144,u145,u146,u147,u148,u149,u150,u151,u152,u153,u154,u155,u156,u157,u158,u159,u160,u161,u162,u163,u164,u165,u166,u167,u168,u169,u170,u171,u172,u173,u174,u175,u176,u177,u178,u179,u180,u181,u182,u183,u184,u185,u186,u187,u188,u189,u190,u191,u192,u193,u194,u195,u196,u197,u198,u199,u200,u201,u202,u203,u204,u205,u206,u207,u208,u209,u210,u211,u212,u213,u214,u215,u216,u217,u218,u219,u220,u221],[]⟩)->J a' w') (hK:∀a' w',Met J a' w'->K a' w') :
  Code.wp Tryz.prog ((Tryz.f17.body.bind (dQ 14)).getD .skip) (Exit.then K (fun _ _ _=>False)) ⟨#[u0,u1,u2,u3,u4,u5,.pointer (some ⟨F,0,none⟩),u7,u8,u9,.slice (some ⟨gt,0,none⟩) nw tc,u11,u12,u13,u14,u15,u16,u17,u18,u19,u20,u21,u22,u23,u24,u25,u26,u27,u28,u29,u30,u31,u32,u33,u34,u35,u36,u37,u38,u39,u40,u41,u42,u43,u44,u45,u46,u47,u48,u49,u50,u51,u52,u53,u54,u55,u56,u57,u58,u59,u60,u61,u62,u63,u64,u65,u66,u67,u68,u69,u70,u71,u72,u73,u74,u75,u76,u77,u78,u79,u80,u81,u82,u83,u84,u85,u86,u87,u88,u89,u90,u91,u92,u93,u94,u95,u96,u97,u98,u99,u100,u101,u102,u103,u104,u105,u106,u107,u108,u109,u110,u111,u112,u113,u114,u115,u116,u117,u118,u119,u120,u121,u122,u123,u124,u125,u126,u127,u128,u129,u130,u131,u132,u133,u134,u135,u136,u137,u138,u139,u140,u141,u142,u143,u144,u145,u146,u147,u148,u149,u150,u151,u152,u153,u154,u155,u156,u157,u158,u159,u160,u161,u162,u163,u164,u165,u166,u167,u168,u169,u170,u171,u172,u173,u174,u175,u176,u177,u178,u179,u180,u181,u182,u183,u184,u185,u186,u187,u188,u189,u190,u191,u192,u193,u194,u195,u196,u197,u198,u199,u200,u201,u202,u203,u204,u205,u206,u207,u208,u209,u210,u211,u212,u213,u214,u215,u216,u217,u218,u219,u220,u221],[]⟩ wc:=by
 conv=>arg 2;whnf
 obtain⟨i0,hi,hz0,hz1,hz2⟩:=info_parts dp;have cF:=S.out.cell 7 _ rfl;have cw:=S.out.word 1 x hx;have q0:0<nw:=by omega
 have q1:(1:Int)<(nw:Int):=by omega
 have hls:=S.out.lts;have hD:=(show Hid _ from S.out.still ((aa.refl [] wc).alloc (.cells #[.string x] 9)).drew)
 have s2:Hid (∀j u,([.string x]:List Value)[j]?=some u->(wc.alloc (.cells #[.string x] 9)).drew.cell? ((⟨wc.heap.size,0,none⟩:Addr).add j)=some u):=by
  intro j u hj;rw[aV];have hk:(wc.alloc (.cells #[.string x] 9)).drew.heap[wc.heap.size]?=some (.cells #[.string x] 9 (0,0)):=heap_alloc_new _ _;rw[ab hk];simpa using hj
 have s3:Hid (∀u∈([.string x]:List Value),u.oneCell'=true):=by intro u hu;simp at hu;subst hu;rfl
 have s4:Hid ((am le).n+1<=maxLen):=by show _<=_;simp only[am];unfold maxLen;omega
 have s5:Hid (((am le).n+1)*16<=140737488355328):=by show _<=_;simp only[am];omega
 go_region_law (refine aC rfl (.tmp 61) (.tmp 65) 22 rfl i0 (.string ⟨#[]⟩) 16 (H 5) (am le) Tryz.underlying22 hi hz0 hz1 hz2 rfl Nat.one_pos (by simp[Act.eval] <;> rfl) (hD.out.fm.bag.own 5) ⟨wc.heap.size,0,none⟩ 1 1 [.string x] (by simp[Act.eval]) rfl s2.out s3.out Nat.one_pos s4.out s5.out ?_;intro g5 cap5 w5 hw5 hgr5 hfr5;obtain⟨k5,f5,HP⟩:=hD.out.app (f':=⟨hy,wh,va,ty,ess,le++[x],ri,go⟩) (es':=es) 7 5 g5 cap5 ((am le).n+1) _ hw5 (bE le x) hgr5 (by simpa using hfr5) (fun j hj=>by rcases j with _|_|_|_|_|_|_|j <;> first | rfl | exact absurd rfl hj) _ rfl (by simp[tr,cG,am]) hD.out.fm.exs hD.out.fm.ess rfl;clear hw5 hgr5 hfr5)
 all_goals go_wp2_with fail
 all_goals go_meet
 all_goals (case rel=>exact⟨_,HP.out⟩)
set_option maxRecDepth 1000000 in
theorem Ge(w wc:World)(F g:Nat)(lab:ByteArray)(L:List ByteArray)(hy:List ByteArray)(wh:List Int)(va ty:List ByteArray)(ess:List (List ByteArray))(le ri go:List ByteArray)(es:List Ex)(hg:Hd)(H:Nat->Hd)(gt tc nw:Nat)(ws:List ByteArray)(x:ByteArray)(hx:ws[2]?=some x)(hjn:2<nw)(hb:ri.length<=300000000)
  (S:Hid (dg w wc F g lab L ⟨hy,wh,va,ty,ess,le,ri,go⟩ es hg H gt tc ws)) (u0 u1 u2 u3 u4 u5 u7 u8 u9 u11 u12 u13 u14 u15 u16 u17 u18 u19 u20 u21 u22 u23 u24 u25 u26 u27 u28 u29 u30 u31 u32 u33 u34 u35 u36 u37 u38 u39 u40 u41 u42 u43 u44 u45 u46 u47 u48 u49 u50 u51 u52 u53 u54 u55 u56 u57 u58 u59 u60 u61 u62 u63 u64 u65 u66 u67 u68 u69 u70 u71 u72 u73 u74 u75 u76 u77 u78 u79 u80 u81 u82 u83 u84 u85 u86 u87 u88 u89 u90 u91 u92 u93 u94 u95 u96 u97 u98 u99 u100 u101 u102 u103 u104 u105 u106 u107 u108 u109 u110 u111 u112 u113 u114 u115 u116 u117 u118 u119 u120 u121 u122 u123 u124 u125 u126 u127 u128 u129 u130 u131 u132 u133 u134 u135 u136 u137 u138 u139 u140 u141 u142 u143 u144 u145 u146 u147 u148 u149 u150 u151 u152 u153 u154 u155 u156 u157 u158 u159 u160 u161 u162 u163 u164 u165 u166 u167 u168 u169 u170 u171 u172 u173 u174 u175 u176 u177 u178 u179 u180 u181 u182 u183 u184 u185 u186 u187 u188 u189 u190 u191 u192 u193 u194 u195 u196 u197 u198 u199 u200 u201 u202 u203 u204 u205 u206 u207 u208 u209 u210 u211 u212 u213 u214 u215 u216 u217 u218 u219 u220 u221:Value) (J K:Act->World->Prop)
  (hJ:∀a' w',(∃v69 v70 v71 v72 v73 v74 v75 v76 v77 v78 v79 v80:Value,(∃H',dg w w' F g lab L ⟨hy,wh,va,ty,ess,le,ri++[x],go⟩ es hg H' gt tc ws)/\a'=⟨#[u0,u1,u2,u3,u4,u5,.pointer (some ⟨F,0,none⟩),u7,u8,u9,.slice (some ⟨gt,0,none⟩) nw tc,u11,u12,u13,u14,u15,u16,u17,u18,u19,u20,u21,u22,u23,u24,u25,u26,u27,u28,u29,u30,u31,u32,u33,u34,u35,u36,u37,u38,u39,u40,u41,u42,u43,u44,u45,u46,u47,u48,u49,u50,u51,u52,u53,u54,u55,u56,u57,u58,u59,u60,u61,u62,u63,u64,u65,u66,u67,u68,v69,v70,v71,v72,v73,v74,v75,v76,v77,v78,v79,v80,u81,u82,u83,u84,u85,u86,u87,u88,u89,u90,u91,u92,u93,u94,u95,u96,u97,u98,u99,u100,u101,u102,u103,u104,u105,u106,u107,u108,u109,u110,u111,u112,u113,u114,u115,u116,u117,u118,u119,u120,u121,u122,u123,u124,u125,u126,u127,u128,u129,u130,u131,u132,u133,u134,u135,u136,u137,u138,u139,u140,u141,u142,u143,u144,u145,u146,u147,u148,u149,u150,u151,u152,u153,u154,u155,u156,u157,u158,u159,u160,u161,u162,u163,u164,u165,u166,u167,u168,u169,u170,u171,u172,u173,u174,u175,u176,u177,u178,u179,u180,u181,u182,u183,u184,u185,u186,u187,u188,u189,u190,u191,u192,u193,u194,u195,u196,u197,u198,u199,u200,u201,u202,u203,u204,u205,u206,u207,u208,u209,u210,u211,u212,u213,u214,u215,u216,u217,u218,u219,u220,u221],[]⟩)->J a' w') (hK:∀a' w',Met J a' w'->K a' w') :
  Code.wp Tryz.prog ((Tryz.f17.body.bind (dQ 15)).getD .skip) (Exit.then K (fun _ _ _=>False)) ⟨#[u0,u1,u2,u3,u4,u5,.pointer (some ⟨F,0,none⟩),u7,u8,u9,.slice (some ⟨gt,0,none⟩) nw tc,u11,u12,u13,u14,u15,u16,u17,u18,u19,u20,u21,u22,u23,u24,u25,u26,u27,u28,u29,u30,u31,u32,u33,u34,u35,u36,u37,u38,u39,u40,u41,u42,u43,u44,u45,u46,u47,u48,u49,u50,u51,u52,u53,u54,u55,u56,u57,u58,u59,u60,u61,u62,u63,u64,u65,u66,u67,u68,u69,u70,u71,u72,u73,u74,u75,u76,u77,u78,u79,u80,u81,u82,u83,u84,u85,u86,u87,u88,u89,u90,u91,u92,u93,u94,u95,u96,u97,u98,u99,u100,u101,u102,u103,u104,u105,u106,u107,u108,u109,u110,u111,u112,u113,u114,u115,u116,u117,u118,u119,u120,u121,u122,u123,u124,u125,u126,u127,u128,u129,u130,u131,u132,u133,u134,u135,u136,u137,u138,u139,u140,u141,u142,u143,u144,u145,u146,u147,u148,u149,u150,u151,u152,u153,u154,u155,u156,u157,u158,u159,u160,u161,u162,u163,u164,u165,u166,u167,u168,u169,u170,u171,u172,u173,u174,u175,u176,u177,u178,u179,u180,u181,u182,u183,u184,u185,u186,u187,u188,u189,u190,u191,u192,u193,u194,u195,u196,u197,u198,u199,u200,u201,u202,u203,u204,u205,u206,u207,u208,u209,u210,u211,u212,u213,u214,u215,u216,u217,u218,u219,u220,u221],[]⟩ wc:=by
 conv=>arg 2;whnf
 obtain⟨i0,hi,hz0,hz1,hz2⟩:=info_parts dp;have cF:=S.out.cell 8 _ rfl;have cw:=S.out.word 2 x hx;have q0:0<nw:=by omega
 have q1:(2:Int)<(nw:Int):=by omega
 have hls:=S.out.lts;have hD:=(show Hid _ from S.out.still ((aa.refl [] wc).alloc (.cells #[.string x] 9)).drew)
 have s2:Hid (∀j u,([.string x]:List Value)[j]?=some u->(wc.alloc (.cells #[.string x] 9)).drew.cell? ((⟨wc.heap.size,0,none⟩:Addr).add j)=some u):=by
  intro j u hj;rw[aV];have hk:(wc.alloc (.cells #[.string x] 9)).drew.heap[wc.heap.size]?=some (.cells #[.string x] 9 (0,0)):=heap_alloc_new _ _;rw[ab hk];simpa using hj
 have s3:Hid (∀u∈([.string x]:List Value),u.oneCell'=true):=by intro u hu;simp at hu;subst hu;rfl
 have s4:Hid ((am ri).n+1<=maxLen):=by show _<=_;simp only[am];unfold maxLen;omega
 have s5:Hid (((am ri).n+1)*16<=140737488355328):=by show _<=_;simp only[am];omega
 go_region_law (refine aC rfl (.tmp 73) (.tmp 77) 22 rfl i0 (.string ⟨#[]⟩) 16 (H 6) (am ri) Tryz.underlying22 hi hz0 hz1 hz2 rfl Nat.one_pos (by simp[Act.eval] <;> rfl) (hD.out.fm.bag.own 6) ⟨wc.heap.size,0,none⟩ 1 1 [.string x] (by simp[Act.eval]) rfl s2.out s3.out Nat.one_pos s4.out s5.out ?_;intro g5 cap5 w5 hw5 hgr5 hfr5;obtain⟨k5,f5,HP⟩:=hD.out.app (f':=⟨hy,wh,va,ty,ess,le,ri++[x],go⟩) (es':=es) 8 6 g5 cap5 ((am ri).n+1) _ hw5 (bE ri x) hgr5 (by simpa using hfr5) (fun j hj=>by rcases j with _|_|_|_|_|_|_|j <;> first | rfl | exact absurd rfl hj) _ rfl (by simp[tr,cG,am]) hD.out.fm.exs hD.out.fm.ess rfl;clear hw5 hgr5 hfr5)
 all_goals go_wp2_with fail
 all_goals go_meet
 all_goals (case rel=>exact⟨_,HP.out⟩)
set_option maxRecDepth 1000000 in
theorem Gf(w wc:World)(F g:Nat)(lab:ByteArray)(L:List ByteArray)(hy:List ByteArray)(wh:List Int)(va ty:List ByteArray)(ess:List (List ByteArray))(le ri go:List ByteArray)(es:List Ex)(hg:Hd)(H:Nat->Hd)(gt tc nw:Nat)(ws:List ByteArray)(x:ByteArray)(hx:ws[0]?=some x)(hjn:0<nw)(hb:hy.length<=300000000)
  (S:Hid (dg w wc F g lab L ⟨hy,wh,va,ty,ess,le,ri,go⟩ es hg H gt tc ws)) (u0 u1 u2 u3 u4 u5 u7 u8 u9 u11 u12 u13 u14 u15 u16 u17 u18 u19 u20 u21 u22 u23 u24 u25 u26 u27 u28 u29 u30 u31 u32 u33 u34 u35 u36 u37 u38 u39 u40 u41 u42 u43 u44 u45 u46 u47 u48 u49 u50 u51 u52 u53 u54 u55 u56 u57 u58 u59 u60 u61 u62 u63 u64 u65 u66 u67 u68 u69 u70 u71 u72 u73 u74 u75 u76 u77 u78 u79 u80 u81 u82 u83 u84 u85 u86 u87 u88 u89 u90 u91 u92 u93 u94 u95 u96 u97 u98 u99 u100 u101 u102 u103 u104 u105 u106 u107 u108 u109 u110 u111 u112 u113 u114 u115 u116 u117 u118 u119 u120 u121 u122 u123 u124 u125 u126 u127 u128 u129 u130 u131 u132 u133 u134 u135 u136 u137 u138 u139 u140 u141 u142 u143 u144 u145 u146 u147 u148 u149 u150 u151 u152 u153 u154 u155 u156 u157 u158 u159 u160 u161 u162 u163 u164 u165 u166 u167 u168 u169 u170 u171 u172 u173 u174 u175 u176 u177 u178 u179 u180 u181 u182 u183 u184 u185 u186 u187 u188 u189 u190 u191 u192 u193 u194 u195 u196 u197 u198 u199 u200 u201 u202 u203 u204 u205 u206 u207 u208 u209 u210 u211 u212 u213 u214 u215 u216 u217 u218 u219 u220 u221:Value) (J K:Act->World->Prop)
  (hJ:∀a' w',(∃v91 v92 v93 v94 v95 v96 v97 v98 v99 v100 v101 v102:Value,(∃H',dg w w' F g lab L ⟨hy++[x],wh,va,ty,ess,le,ri,go⟩ es hg H' gt tc ws)/\a'=⟨#[u0,u1,u2,u3,u4,u5,.pointer (some ⟨F,0,none⟩),u7,u8,u9,.slice (some ⟨gt,0,none⟩) nw tc,u11,u12,u13,u14,u15,u16,u17,u18,u19,u20,u21,u22,u23,u24,u25,u26,u27,u28,u29,u30,u31,u32,u33,u34,u35,u36,u37,u38,u39,u40,u41,u42,u43,u44,u45,u46,u47,u48,u49,u50,u51,u52,u53,u54,u55,u56,u57,u58,u59,u60,u61,u62,u63,u64,u65,u66,u67,u68,u69,u70,u71,u72,u73,u74,u75,u76,u77,u78,u79,u80,u81,u82,u83,u84,u85,u86,u87,u88,u89,u90,v91,v92,v93,v94,v95,v96,v97,v98,v99,v100,v101,v102,u103,u104,u105,u106,u107,u108,u109,u110,u111,u112,u113,u114,u115,u116,u117,u118,u119,u120,u121,u122,u123,u124,u125,u126,u127,u128,u129,u130,u131,u132,u133,u134,u135,u136,u137,u138,u139,u140,u141,u142,u143,u144,u145,u146,u147,u148,u149,u150,u151,u152,u153,u154,u155,u156,u157,u158,u159,u160,u161,u162,u163,u164,u165,u166,u167,u168,u169,u170,u171,u172,u173,u174,u175,u176,u177,u178,u179,u180,u181,u182,u183,u184,u185,u186,u187,u188,u189,u190,u191,u192,u193,u194,u195,u196,u197,u198,u199,u200,u201,u202,u203,u204,u205,u206,u207,u208,u209,u210,u211,u212,u213,u214,u215,u216,u217,u218,u219,u220,u221],[]⟩)->J a' w') (hK:∀a' w',Met J a' w'->K a' w') :
  Code.wp Tryz.prog ((Tryz.f17.body.bind (dQ 17)).getD .skip) (Exit.then K (fun _ _ _=>False)) ⟨#[u0,u1,u2,u3,u4,u5,.pointer (some ⟨F,0,none⟩),u7,u8,u9,.slice (some ⟨gt,0,none⟩) nw tc,u11,u12,u13,u14,u15,u16,u17,u18,u19,u20,u21,u22,u23,u24,u25,u26,u27,u28,u29,u30,u31,u32,u33,u34,u35,u36,u37,u38,u39,u40,u41,u42,u43,u44,u45,u46,u47,u48,u49,u50,u51,u52,u53,u54,u55,u56,u57,u58,u59,u60,u61,u62,u63,u64,u65,u66,u67,u68,u69,u70,u71,u72,u73,u74,u75,u76,u77,u78,u79,u80,u81,u82,u83,u84,u85,u86,u87,u88,u89,u90,u91,u92,u93,u94,u95,u96,u97,u98,u99,u100,u101,u102,u103,u104,u105,u106,u107,u108,u109,u110,u111,u112,u113,u114,u115,u116,u117,u118,u119,u120,u121,u122,u123,u124,u125,u126,u127,u128,u129,u130,u131,u132,u133,u134,u135,u136,u137,u138,u139,u140,u141,u142,u143,u144,u145,u146,u147,u148,u149,u150,u151,u152,u153,u154,u155,u156,u157,u158,u159,u160,u161,u162,u163,u164,u165,u166,u167,u168,u169,u170,u171,u172,u173,u174,u175,u176,u177,u178,u179,u180,u181,u182,u183,u184,u185,u186,u187,u188,u189,u190,u191,u192,u193,u194,u195,u196,u197,u198,u199,u200,u201,u202,u203,u204,u205,u206,u207,u208,u209,u210,u211,u212,u213,u214,u215,u216,u217,u218,u219,u220,u221],[]⟩ wc:=by
 conv=>arg 2;whnf
 obtain⟨i0,hi,hz0,hz1,hz2⟩:=info_parts dp;have cF:=S.out.cell 2 _ rfl;have cw:=S.out.word 0 x hx;have q0:0<nw:=by omega
 have q1:(0:Int)<(nw:Int):=by omega
 have hls:=S.out.lts;have hD:=(show Hid _ from S.out.still ((aa.refl [] wc).alloc (.cells #[.string x] 9)).drew)
 have s2:Hid (∀j u,([.string x]:List Value)[j]?=some u->(wc.alloc (.cells #[.string x] 9)).drew.cell? ((⟨wc.heap.size,0,none⟩:Addr).add j)=some u):=by
  intro j u hj;rw[aV];have hk:(wc.alloc (.cells #[.string x] 9)).drew.heap[wc.heap.size]?=some (.cells #[.string x] 9 (0,0)):=heap_alloc_new _ _;rw[ab hk];simpa using hj
 have s3:Hid (∀u∈([.string x]:List Value),u.oneCell'=true):=by intro u hu;simp at hu;subst hu;rfl
 have s4:Hid ((am hy).n+1<=maxLen):=by show _<=_;simp only[am];unfold maxLen;omega
 have s5:Hid (((am hy).n+1)*16<=140737488355328):=by show _<=_;simp only[am];omega
 go_region_law (refine aC rfl (.tmp 95) (.tmp 99) 22 rfl i0 (.string ⟨#[]⟩) 16 (H 0) (am hy) Tryz.underlying22 hi hz0 hz1 hz2 rfl Nat.one_pos (by simp[Act.eval] <;> rfl) (hD.out.fm.bag.own 0) ⟨wc.heap.size,0,none⟩ 1 1 [.string x] (by simp[Act.eval]) rfl s2.out s3.out Nat.one_pos s4.out s5.out ?_;intro g5 cap5 w5 hw5 hgr5 hfr5;obtain⟨k5,f5,HP⟩:=hD.out.app (f':=⟨hy++[x],wh,va,ty,ess,le,ri,go⟩) (es':=es) 2 0 g5 cap5 ((am hy).n+1) _ hw5 (bE hy x) hgr5 (by simpa using hfr5) (fun j hj=>by rcases j with _|_|_|_|_|_|_|j <;> first | rfl | exact absurd rfl hj) _ rfl (by simp[tr,cG,am]) hD.out.fm.exs hD.out.fm.ess rfl;clear hw5 hgr5 hfr5)
 all_goals go_wp2_with fail
 all_goals go_meet
 all_goals (case rel=>exact⟨_,HP.out⟩)
set_option maxRecDepth 1000000 in
theorem Gg(w wc:World)(F g:Nat)(lab:ByteArray)(L:List ByteArray)(hy:List ByteArray)(wh:List Int)(va ty:List ByteArray)(ess:List (List ByteArray))(le ri go:List ByteArray)(es:List Ex)(hg:Hd)(H:Nat->Hd)(gt tc nw:Nat)(ws:List ByteArray)(_hva:va.length<=300000000)(hel:es.length<=300000000)(hb:wh.length<=300000000)
  (S:Hid (dg w wc F g lab L ⟨hy,wh,va,ty,ess,le,ri,go⟩ es hg H gt tc ws)) (u0 u1 u2 u3 u4 u5 u7 u8 u9 u11 u12 u13 u14 u15 u16 u17 u18 u19 u20 u21 u22 u23 u24 u25 u26 u27 u28 u29 u30 u31 u32 u33 u34 u35 u36 u37 u38 u39 u40 u41 u42 u43 u44 u45 u46 u47 u48 u49 u50 u51 u52 u53 u54 u55 u56 u57 u58 u59 u60 u61 u62 u63 u64 u65 u66 u67 u68 u69 u70 u71 u72 u73 u74 u75 u76 u77 u78 u79 u80 u81 u82 u83 u84 u85 u86 u87 u88 u89 u90 u91 u92 u93 u94 u95 u96 u97 u98 u99 u100 u101 u102 u103 u104 u105 u106 u107 u108 u109 u110 u111 u112 u113 u114 u115 u116 u117 u118 u119 u120 u121 u122 u123 u124 u125 u126 u127 u128 u129 u130 u131 u132 u133 u134 u135 u136 u137 u138 u139 u140 u141 u142 u143 u144 u145 u146 u147 u148 u149 u150 u151 u152 u153 u154 u155 u156 u157 u158 u159 u160 u161 u162 u163 u164 u165 u166 u167 u168 u169 u170 u171 u172 u173 u174 u175 u176 u177 u178 u179 u180 u181 u182 u183 u184 u185 u186 u187 u188 u189 u190 u191 u192 u193 u194 u195 u196 u197 u198 u199 u200 u201 u202 u203 u204 u205 u206 u207 u208 u209 u210 u211 u212 u213 u214 u215 u216 u217 u218 u219 u220 u221:Value) (J K:Act->World->Prop)
  (hJ:∀a' w',(∃v103 v104 v105 v106 v107 v108 v109 v110 v111 v112 v113 v114 v115 v116:Value,(∃H',dg w w' F g lab L ⟨hy,wh++[(va.length:Int)],va,ty,ess,le,ri,go⟩ es hg H' gt tc ws)/\a'=⟨#[u0,u1,u2,u3,u4,u5,.pointer (some ⟨F,0,none⟩),u7,u8,u9,.slice (some ⟨gt,0,none⟩) nw tc,u11,u12,u13,u14,u15,u16,u17,u18,u19,u20,u21,u22,u23,u24,u25,u26,u27,u28,u29,u30,u31,u32,u33,u34,u35,u36,u37,u38,u39,u40,u41,u42,u43,u44,u45,u46,u47,u48,u49,u50,u51,u52,u53,u54,u55,u56,u57,u58,u59,u60,u61,u62,u63,u64,u65,u66,u67,u68,u69,u70,u71,u72,u73,u74,u75,u76,u77,u78,u79,u80,u81,u82,u83,u84,u85,u86,u87,u88,u89,u90,u91,u92,u93,u94,u95,u96,u97,u98,u99,u100,u101,u102,v103,v104,v105,v106,v107,v108,v109,v110,v111,v112,v113,v114,v115,v116,u117,u118,u119,u120,u121,u122,u123,u124,u125,u126,u127,u128,u129,u130,u131,u132,u133,u134,u135,u136,u137,u138,u139,u140,u141,u142,u143,u144,u145,u146,u147,u148,u149,u150,u151,u152,u153,u154,u155,u156,u157,u158,u159,u160,u161,u162,u163,u164,u165,u166,u167,u168,u169,u170,u171,u172,u173,u174,u175,u176,u177,u178,u179,u180,u181,u182,u183,u184,u185,u186,u187,u188,u189,u190,u191,u192,u193,u194,u195,u196,u197,u198,u199,u200,u201,u202,u203,u204,u205,u206,u207,u208,u209,u210,u211,u212,u213,u214,u215,u216,u217,u218,u219,u220,u221],[]⟩)->J a' w') (hK:∀a' w',Met J a' w'->K a' w') :
  Code.wp Tryz.prog ((Tryz.f17.body.bind (dQ 18)).getD .skip) (Exit.then K (fun _ _ _=>False)) ⟨#[u0,u1,u2,u3,u4,u5,.pointer (some ⟨F,0,none⟩),u7,u8,u9,.slice (some ⟨gt,0,none⟩) nw tc,u11,u12,u13,u14,u15,u16,u17,u18,u19,u20,u21,u22,u23,u24,u25,u26,u27,u28,u29,u30,u31,u32,u33,u34,u35,u36,u37,u38,u39,u40,u41,u42,u43,u44,u45,u46,u47,u48,u49,u50,u51,u52,u53,u54,u55,u56,u57,u58,u59,u60,u61,u62,u63,u64,u65,u66,u67,u68,u69,u70,u71,u72,u73,u74,u75,u76,u77,u78,u79,u80,u81,u82,u83,u84,u85,u86,u87,u88,u89,u90,u91,u92,u93,u94,u95,u96,u97,u98,u99,u100,u101,u102,u103,u104,u105,u106,u107,u108,u109,u110,u111,u112,u113,u114,u115,u116,u117,u118,u119,u120,u121,u122,u123,u124,u125,u126,u127,u128,u129,u130,u131,u132,u133,u134,u135,u136,u137,u138,u139,u140,u141,u142,u143,u144,u145,u146,u147,u148,u149,u150,u151,u152,u153,u154,u155,u156,u157,u158,u159,u160,u161,u162,u163,u164,u165,u166,u167,u168,u169,u170,u171,u172,u173,u174,u175,u176,u177,u178,u179,u180,u181,u182,u183,u184,u185,u186,u187,u188,u189,u190,u191,u192,u193,u194,u195,u196,u197,u198,u199,u200,u201,u202,u203,u204,u205,u206,u207,u208,u209,u210,u211,u212,u213,u214,u215,u216,u217,u218,u219,u220,u221],[]⟩ wc:=by
 conv=>arg 2;whnf
 obtain⟨i0,hi,hz0,hz1,hz2⟩:=info_parts fU;have cF:=S.out.cell 3 _ rfl;have cw:=S.out.cell 4 _ rfl;have qw:IntKind.i64.wrap (-1-(es.length:Int))=-1-(es.length:Int):=by rw[IntKind.wrap_i64];omega
 have hls:=S.out.lts;have hD:=(show Hid _ from S.out.still ((aa.refl [] wc).alloc (.cells #[.int .i64 ((va.length:Int))] 3)).drew)
 have s2:Hid (∀j u,([.int .i64 ((va.length:Int))]:List Value)[j]?=some u->(wc.alloc (.cells #[.int .i64 ((va.length:Int))] 3)).drew.cell? ((⟨wc.heap.size,0,none⟩:Addr).add j)=some u):=by
  intro j u hj;rw[aV];have hk:(wc.alloc (.cells #[.int .i64 ((va.length:Int))] 3)).drew.heap[wc.heap.size]?=some (.cells #[.int .i64 ((va.length:Int))] 3 (0,0)):=heap_alloc_new _ _;rw[ab hk];simpa using hj
 have s3:Hid (∀u∈([.int .i64 ((va.length:Int))]:List Value),u.oneCell'=true):=by intro u hu;simp at hu;subst hu;rfl
 have s4:Hid ((eB wh).n+1<=maxLen):=by show _<=_;simp only[eB];unfold maxLen;omega
 have s5:Hid (((eB wh).n+1)*8<=140737488355328):=by show _<=_;simp only[eB];omega
 go_region_law (refine aC rfl (.tmp 107) (.tmp 113) 33 rfl i0 (.int .i64 0) 8 (H 1) (eB wh) Tryz.underlying33 hi hz0 hz1 hz2 rfl Nat.one_pos (by simp[Act.eval] <;> rfl) (hD.out.fm.bag.own 1) ⟨wc.heap.size,0,none⟩ 1 1 [.int .i64 ((va.length:Int))] (by simp[Act.eval]) rfl s2.out s3.out Nat.one_pos s4.out s5.out ?_;intro g5 cap5 w5 hw5 hgr5 hfr5;obtain⟨k5,f5,HP⟩:=hD.out.app (f':=⟨hy,wh++[(va.length:Int)],va,ty,ess,le,ri,go⟩) (es':=es) 3 1 g5 cap5 ((eB wh).n+1) _ hw5 (ld wh ((va.length:Int))) hgr5 (by simpa using hfr5) (fun j hj=>by rcases j with _|_|_|_|_|_|_|j <;> first | rfl | exact absurd rfl hj) _ rfl (by simp[tr,cG,eB]) hD.out.fm.exs hD.out.fm.ess rfl;clear hw5 hgr5 hfr5)
 all_goals go_wp2_with fail
 all_goals go_meet
 all_goals (case rel=>exact⟨_,HP.out⟩)
end Go.Proofs.YtlbhbocbakijbaaGreat

import Derived.Test.YtnbalopedcgpcaaGreatG21
namespace Go.Proofs.YtnbalopedcgpcaaGreat
open Go.RowKit Tryz
open Option renaming some->XK
open Bool renaming true->XL,false->XM
set_option maxHeartbeats 0
variable{n T:Nat}(w:List St)(H:Nat)(b:List ByteArray)(f l:Nat)
def Pa(l:List St)(a n:Nat):Prop:=∃s,l[n]?=XK s/\(s.kind==1)=XM/\bZ l n a=XL
def Pp(l:List St)(a i:Nat)(s:gY):Prop:=(s.kind=3/\s.Un<i)∨(s.kind=2/\Pa l a s.Un)
def Pw(l:List St)(a:Nat)(L:List gY):Prop:=∀i s,L[i]?=XK s->s.kind=1∨Pp l a i s
structure Pm(l:List St)(a:Nat)(c:iR):Prop where
 n:∀x∈c.names,Pa l a x
 t:∀x∈c.Uz,x<c.steps.length
 s:Pw l a c.steps
 b:c.behind=XL->0<c.steps.length
def gT(l:List St)(n:Nat):Rw:=gL l n (ck l n)
theorem rP(k:Nat):ck w k=(List.range k).map (gT w):=by
 induction k with
 | zero=>rfl
 | succ k a=>rw[ck,QM,QA,<-a];rfl
theorem NT(h:T<n):jy (ck w n) T=(gT w T).Us:=by
 unfold jy;rw[rP,PK,Qt,Sw h];rfl
def rz(R:List St)(a:Nat)(vs:List ByteArray)(k i j:Nat):Bool:=(List.range k).any (fun n=>hZ R a n&&(aG vs (symsAt R n)).contains i&&(aG vs (symsAt R n)).contains j)
theorem zB(a:List Nat)(b:List Bool)(q:Nat)(c:q<b.length):(ie f l a b).getD q XM=(b.getD q XM||a.any (fun i=>l*f+i==q)):=by
 unfold ie
 induction a generalizing b with
 | nil=>simp
 | cons m a g =>
  simp only[List.foldl_cons,List.any_cons];rw[g (b.set (l*f+m) XL) (by simpa using c)];by_cases e:l*f+m=q
  ·subst e;rw[PK,List.getElem?_set_self c];simp
  ·have d:(l*f+m==q)=XM:=(by rw[Qi];exact e);rw[PK,Ti e,<-PK,d,Sd]
theorem zA(a r:List Nat)(b:List Bool)(q:Nat)(d:q<b.length):(r.foldl (fun b c=>ie l c a b) b).getD q XM=(b.getD q XM||r.any (fun c=>a.any (fun f=>c*l+f==q))):=by
 induction r generalizing b with
 | nil=>simp
 | cons m r e =>
  simp only[List.foldl_cons,List.any_cons];rw[e (ie l m a b) (by rw[lV];exact d),zB l m a b q d,Bool.or_assoc]
theorem zM{j a b:Nat}(d:b<n)(e:j<n)(h:a*n+b=T*n+j):a=T/\b=j:=by
 have c:(a*n+b) / n=a:=by rw[R6,Uf (by omega)];rw[TQ d];omega
 have f:(T*n+j) / n=T:=by rw[R6,Uf (by omega)];rw[TQ e];omega
 rw[h]at c;have:a=T:=by omega
 subst this;exact⟨rfl,by omega⟩
theorem Fu(k i j:Nat)(o:i<b.length)(f:j<b.length):(bE w H b k).getD (i*b.length+j) XM=rz w H b k i j:=by
 have g:i*b.length+j<b.length*b.length:=vO o f
 induction k with
 | zero =>
  unfold rz;rw[bE,PK,SM,PZ g];rfl
 | succ k l =>
  have m:rz w H b (k+1) i j=(rz w H b k i j||(hZ w H k&&(aG b (symsAt w k)).contains i&&(aG b (symsAt w k)).contains j)):=by
   unfold rz;rw[QM,SB];simp
  rw[m,bE];cases q:hZ w H k
  ·simp only[Bool.false_eq_true,if_false,Bool.false_and,Bool.or_false];exact l
  ·simp only[if_true,Bool.true_and];unfold iI;rw[zA _ _ _ _ _ (by rw[gR];exact g),l];congr 1;rw[SG];simp only[List.any_eq_true,Bool.and_eq_true,List.contains_iff_mem,beq_iff_eq];constructor
   ·rintro ⟨r,d,s,c,n⟩;obtain⟨p,e⟩:=QN c;have a:=kJ b (symsAt w k) p e.1;rw[e.2]at a;obtain⟨rfl,rfl⟩:=zM a f n;exact⟨d,c⟩
   ·rintro ⟨d,c⟩;exact⟨i,d,j,c,rfl⟩
theorem Eu(a:f<b.length)(c:l<b.length):cR b.length (cT w H b) f l=(!(f==l)&&rz w H b w.length f l):=by
 unfold cR cT;rw[Fu w H b w.length f l a c]
theorem jk{α:Type}(l:List Nat)(f g:Nat->List α)(h:∀x∈l,f x=g x):l.flatMap f=l.flatMap g:=by
 induction l with
 | nil=>rfl
 | cons a l c=>rw[QH,QH,h a (by simp),c (fun x b=>h x (Qv _ b))]
def nS(l N:List St)(a:Nat):List ByteArray:=((List.range N.length).filter (fun j=>jM (l++N) a (l.length+j))).flatMap (symsAt N)
def LQ(vs:List ByteArray)(A:Nat->Nat->Bool):List Pr:=(List.range vs.length).flatMap (fun i=>((List.range vs.length).filter (fun j=>decide (i<j)&&A i j)).map (fun j=>(gD vs i,gD vs j)))
theorem NH:tD b (cT w H b)=LQ b (fun i j=>!(i==j)&&rz w H b w.length i j):=by
 unfold tD mS LQ iJ;refine jk _ _ _ (fun i a=>?_);have a:=Qe.1 a;congr 1;exact RT (fun j c=>by rw[Eu w H b i j a (Qe.1 c)])
end Go.Proofs.YtnbalopedcgpcaaGreat

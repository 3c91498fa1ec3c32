import Derived.Test.YtnbalopedcgpcaaGreatG21
namespace Go.Proofs.YtnbalopedcgpcaaGreat
open Go.RowKit Tryz
open Option renaming some->XK
open Bool renaming true->XL,false->XM
set_option maxHeartbeats 0
variable{n T:Nat}(w:List St)(H:Nat)(b:List ByteArray)(f l:Nat)
def O0(l:List St)(a n:Nat):Prop:=∃s,l[n]?=XK s/\(s.kind==1)=XM/\bZ l n a=XL
def Pe(l:List St)(a i:Nat)(s:gX):Prop:=(s.kind=3/\s.Uc<i)∨(s.kind=2/\O0 l a s.Uc)
def Pj(l:List St)(a:Nat)(L:List gX):Prop:=∀i s,L[i]?=XK s->s.kind=1∨Pe l a i s
structure Pb(l:List St)(a:Nat)(c:iQ):Prop where
 n:∀x∈c.names,O0 l a x
 t:∀x∈c.Uo,x<c.steps.length
 s:Pj l a c.steps
 b:c.behind=XL->0<c.steps.length
def gS(l:List St)(n:Nat):Rw:=gL l n (ck l n)
theorem rP(k:Nat):ck w k=(List.range k).map (gS w):=by
 induction k with
 | zero=>rfl
 | succ k a=>rw[ck,QB,Qp,<-a];rfl
theorem NP(h:T<n):jy (ck w n) T=(gS w T).Uh:=by
 unfold jy;rw[rP,Py,Qi,Sl h];rfl
def rz(R:List St)(a:Nat)(vs:List ByteArray)(k i j:Nat):Bool:=(List.range k).any (fun n=>g7 R a n&&(aG vs (symsAt R n)).contains i&&(aG vs (symsAt R n)).contains j)
theorem zB(a:List Nat)(b:List Bool)(q:Nat)(c:q<b.length):(ic f l a b).getD q XM=(b.getD q XM||a.any (fun i=>l*f+i==q)):=by
 unfold ic
 induction a generalizing b with
 | nil=>simp
 | cons m a g =>
  simp only[List.foldl_cons,List.any_cons];rw[g (b.set (l*f+m) XL) (by simpa using c)];by_cases e:l*f+m=q
  ·subst e;rw[Py,List.getElem?_set_self c];simp
  ·have d:(l*f+m==q)=XM:=(by rw[P7];exact e);rw[Py,SW e,<-Py,d,R1]
theorem zA(a r:List Nat)(b:List Bool)(q:Nat)(d:q<b.length):(r.foldl (fun b c=>ic l c a b) b).getD q XM=(b.getD q XM||r.any (fun c=>a.any (fun f=>c*l+f==q))):=by
 induction r generalizing b with
 | nil=>simp
 | cons m r e =>
  simp only[List.foldl_cons,List.any_cons];rw[e (ic l m a b) (by rw[lU];exact d),zB l m a b q d,Bool.or_assoc]
theorem zM{j a b:Nat}(d:b<n)(e:j<n)(h:a*n+b=T*n+j):a=T/\b=j:=by
 have c:(a*n+b) / n=a:=by rw[RQ,TP (by omega)];rw[TA d];omega
 have f:(T*n+j) / n=T:=by rw[RQ,TP (by omega)];rw[TA e];omega
 rw[h]at c;have:a=T:=by omega
 subst this;exact⟨rfl,by omega⟩
theorem Fu(k i j:Nat)(o:i<b.length)(f:j<b.length):(bE w H b k).getD (i*b.length+j) XM=rz w H b k i j:=by
 have g:i*b.length+j<b.length*b.length:=vO o f
 induction k with
 | zero =>
  unfold rz;rw[bE,Py,Sx,PJ g];rfl
 | succ k l =>
  have m:rz w H b (k+1) i j=(rz w H b k i j||(g7 w H k&&(aG b (symsAt w k)).contains i&&(aG b (symsAt w k)).contains j)):=by
   unfold rz;rw[QB,Sq];simp
  rw[m,bE];cases q:g7 w H k
  ·simp only[Bool.false_eq_true,if_false,Bool.false_and,Bool.or_false];exact l
  ·simp only[if_true,Bool.true_and];unfold iH;rw[zA _ _ _ _ _ (by rw[gR];exact g),l];congr 1;rw[Su];simp only[List.any_eq_true,Bool.and_eq_true,List.contains_iff_mem,beq_iff_eq];constructor
   ·rintro ⟨r,d,s,c,n⟩;obtain⟨p,e⟩:=QC c;have a:=kJ b (symsAt w k) p e.1;rw[e.2]at a;obtain⟨rfl,rfl⟩:=zM a f n;exact⟨d,c⟩
   ·rintro ⟨d,c⟩;exact⟨i,d,j,c,rfl⟩
theorem Eu(a:f<b.length)(c:l<b.length):cR b.length (cT w H b) f l=(!(f==l)&&rz w H b w.length f l):=by
 unfold cR cT;rw[Fu w H b w.length f l a c]
theorem jk{α:Type}(l:List Nat)(f g:Nat->List α)(h:∀x∈l,f x=g x):l.flatMap f=l.flatMap g:=by
 induction l with
 | nil=>rfl
 | cons a l c=>rw[QE,QE,h a (by simp),c (fun x b=>h x (Qk _ b))]
def nS(l N:List St)(a:Nat):List ByteArray:=((List.range N.length).filter (fun j=>jM (l++N) a (l.length+j))).flatMap (symsAt N)
def LN(vs:List ByteArray)(A:Nat->Nat->Bool):List Pr:=(List.range vs.length).flatMap (fun i=>((List.range vs.length).filter (fun j=>decide (i<j)&&A i j)).map (fun j=>(gD vs i,gD vs j)))
theorem ND:tD b (cT w H b)=LN b (fun i j=>!(i==j)&&rz w H b w.length i j):=by
 unfold tD mR LN iI;refine jk _ _ _ (fun i a=>?_);have a:=PV.1 a;congr 1;exact RB (fun j c=>by rw[Eu w H b i j a (PV.1 c)])
end Go.Proofs.YtnbalopedcgpcaaGreat

import Derived.Test.YtlbhbocbakijbaaGreatG20
namespace Go.Proofs.YtlbhbocbakijbaaGreat
open Go.RowKit
set_option maxHeartbeats 0
def Ci(x:ByteArray×Pl):List (Nat×Pl):=(List.range x.1.size).map (fun j=>((aw x.1 j).toNat,{ x.2 with col:=x.2.col+j }))
def vY:List (Nat×Pl)->gG->lW×gG
 | [],c=>(bT,c)
 | x :: r,c=>if((aY c x.1 x.2).1==0)=true then vY r (aY c x.1 x.2).2 else(((aY c x.1 x.2).1,x.2),(aY c x.1 x.2).2)
theorem Ea(A B:List (Nat×Pl)):∀c,vY (A++B) c=if((vY A c).1.1==0)=true then vY B (vY A c).2 else vY A c:=by
 induction A with
 | nil=>intro c;rw[List.nil_append,vY,if_pos (by rfl)]
 | cons x r ih =>
  intro c;rw[List.cons_append,vY,vY]
  split
  ·exact ih _
  ·rfl
theorem xB(t:ByteArray)(p:Pl)(k:Nat):∀f j c,j+k=t.size->k<f->cX t p f j c=vY ((List.range' j k).map (fun j=>((aw t j).toNat,{ p with col:=p.col+j }))) c:=by
 induction k with
 | zero =>
  intro f j c h hf
  cases f with
  | zero=>omega
  | succ f=>rw[cX,if_neg (by omega)];rfl
 | succ k ih =>
  intro f j c h hf
  cases f with
  | zero=>omega
  | succ f =>
   rw[cX,if_pos (by omega),List.range'_succ,List.map_cons,vY,ih f (j+1) _ (by omega) (by omega)]
theorem Do(x:ByteArray×Pl)(c:gG):gN x.1 x.2 c=vY (Ci x) c:=by
 unfold gN Ci;rw[xB x.1 x.2 x.1.size _ 0 c (by omega) (by omega),List.range_eq_range']
theorem AU(ws:List (ByteArray×Pl)):∀c,gT ws c=vY (ws.flatMap Ci) c:=by
 induction ws with
 | nil=>intro c;rfl
 | cons x r ih =>
  intro c;obtain⟨t,p⟩:=x;rw[gT,List.flatMap_cons,Ea,Do (t,p) c,ih]
def Dr(l:List St)(a n:Nat):Prop:=∃s,l[n]?=some s/\(s.kind==1)=false/\b7 l n a=true
def GF(l:List St)(a i:Nat)(s:fk):Prop:=(s.kind=3/\s.number<i)∨(s.kind=2/\Dr l a s.number)
theorem Dr.lt{l:List St}{a n:Nat}(h:Dr l a n):n<l.length:=by
 obtain⟨s,h,-⟩:=h;exact(List.getElem?_eq_some_iff.1 h).1
def vr(l:List St)(a:Nat)(L:List fk):Prop:=∀i s,L[i]?=some s->s.kind=1∨GF l a i s
theorem vr.snoc{l:List St}{a:Nat}{L:List fk}{s:fk}(h:vr l a L)(hs:s.kind=1∨GF l a L.length s):vr l a (L++[s]):=fun i x hx=>by
 by_cases hi:i<L.length
 ·rw[List.getElem?_append_left hi]at hx;exact h i x hx
 ·have hi2:=(List.getElem?_eq_some_iff.1 hx).1
  rw[List.length_append,List.length_singleton]at hi2;have e:i=L.length:=by omega
  subst e;rw[List.getElem?_append_right (Nat.le_refl _),Nat.sub_self]at hx;rw[<-Option.some.inj hx];exact hs
theorem vr.nil(l:List St)(a:Nat):vr l a []:=fun i s h=>by cases h
theorem tV{l:List St}{x:ByteArray}{a n:Nat}(h:ft l x a=some n):Dr l a n:=by
 unfold ft at h;have h1:=List.find?_some h;unfold ic at h1
 split at h1
 ·next s hs =>
  simp only[Bool.and_eq_true,Bool.not_eq_true']at h1;exact⟨s,hs,h1.1.2,h1.2⟩
 ·cases h1
theorem Eh{l:List St}{a n:Nat}(h:n∈aq l a):Dr l a n:=by
 unfold aq cd at h;have h1:=(List.mem_filter.1 h).2;unfold gn at h1
 split at h1
 ·next s hs =>
  rw[Bool.and_eq_true]at h1;refine⟨s,hs,?_,h1.1⟩;have h2:=h1.2;unfold jR at h2
  split at h2
  ·next h3 =>
   have:s.kind=2:=by simpa using h3
   rw[this];rfl
  ·have:s.kind=3:=by simpa using h2
   rw[this];rfl
 ·cases h1
theorem Cq{l:List St}{a:Nat}(fin:Pl)(ws:List (ByteArray×Pl)):∀acc,vr l a acc->vr l a (bM l a fin ws acc).1:=by
 induction ws with
 | nil=>intro acc h;rw[bM];split;exact vr.nil l a;exact h
 | cons x r ih =>
  intro acc h;obtain⟨t,p⟩:=x;rw[bM]
  split
  ·exact ih _ (h.snoc (Or.inl rfl))
  ·split
   ·exact vr.nil l a
   ·next n hn=>exact ih _ (h.snoc (Or.inr (Or.inr ⟨rfl,tV hn⟩)))
structure yI(l:List St)(a:Nat)(c:gG):Prop where
 n:∀x∈c.names,Dr l a x
 t:∀x∈c.tagged,x<c.steps.length
 s:vr l a c.steps
 b:c.behind=true->0<c.steps.length
theorem rk{L:List Nat}{k:Nat}(h:k<L.length):L.getD k 0∈L:=by
 rw[List.getD_eq_getElem?_getD,List.getElem?_eq_getElem h];exact List.getElem_mem h
theorem yI.let{l:List St}{a:Nat}{c:gG}(h:yI l a c)(n:Nat)(p:Pl):yI l a (aY c n p).2:=by
 have more:∀x,x<c.steps.length->∀s:fk,x<(c.steps++[s]).length:=fun x hx s=>by rw[List.length_append];omega
 unfold aY
 split
 ·unfold fc cH
  split
  ·next hk=>exact⟨h.n,fun x hx=>more x (h.t x hx) _,h.s.snoc (Or.inr (Or.inr ⟨rfl,h.n _ (rk hk)⟩)),fun _=>by simp⟩
  ·split
   ·next hk=>exact⟨h.n,fun x hx=>more x (h.t x hx) _,h.s.snoc (Or.inr (Or.inl ⟨rfl,h.t _ (rk hk)⟩)),fun _=>by simp⟩
   ·exact⟨h.n,h.t,h.s,h.b⟩
 ·split
  ·unfold gC
   split <;> exact⟨h.n,h.t,h.s,fun h=>by cases h⟩
  ·split
   ·next hz =>
    refine⟨h.n,fun x hx=>?_,h.s,fun h=>by cases h⟩
    rcases List.mem_append.1 hx with hx | hx
    ·exact h.t x hx
    ·have:=h.b hz.2
     have:=List.mem_singleton.1 hx
     show x<c.steps.length
     omega
   ·split
    ·exact⟨h.n,fun x hx=>more x (h.t x hx) _,h.s.snoc (Or.inl rfl),fun h=>by cases h⟩
    ·exact h
theorem Eb{l:List St}{a:Nat}(X:List (Nat×Pl)):∀c,yI l a c->yI l a (vY X c).2:=by
 induction X with
 | nil=>intro c h;exact h
 | cons x r ih =>
  intro c h;rw[vY]
  split
  ·exact ih _ (h.let _ _)
  ·exact h.let _ _
theorem yQ{l:List St}{a:Nat}(fin:Pl)(ws:List (ByteArray×Pl)):∀i ns,(∀x∈ns,Dr l a x)->∀x∈(bB l a fin i ws ns).2,Dr l a x:=by
 induction ws with
 | nil=>intro i ns h;exact h
 | cons y r ih =>
  intro i ns h;obtain⟨t,p⟩:=y;rw[bB]
  split
  ·exact h
  ·split
   ·exact h
   ·next n hn =>
    split
    ·exact h
    ·refine ih _ _ (fun x hx=>?_)
     rcases List.mem_append.1 hx with hx | hx
     ·exact h x hx
     ·rw[List.mem_singleton.1 hx];exact tV hn
theorem yx(l:List St)(a:Nat)(s:St):vr l a (bR l a s).1:=by
 unfold bR
 split
 ·unfold fH j9 mh
  split
  ·split
   ·split
    ·exact vr.nil l a
    ·have h0:yI l a ⟨(bB l a s.fin 1 (s.proof.drop 1) (aq l a)).2,[],[],0,false⟩:=⟨yQ _ _ _ _ (fun x hx=>Eh hx),(fun x hx=>by cases hx),vr.nil l a,fun h=>by cases h⟩
     unfold vu
     split
     ·rw[AU];exact(Eb _ _ h0).s
     ·exact h0.s
   ·exact vr.nil l a
  ·exact vr.nil l a
 ·exact Cq _ _ _ (vr.nil l a)
def bq(l:List St)(n:Nat):Rw:=fD l n (aK l n)
theorem yG(l:List St)(k:Nat):aK l k=(List.range k).map (bq l):=by
 induction k with
 | zero=>rfl
 | succ k ih=>rw[aK,List.range_succ,List.map_append,<-ih];rfl
theorem kL(l:List St){k m:Nat}(h:m<k):cR (aK l k) m=(bq l m).verdict:=by
 unfold cR;rw[yG,List.getD_eq_getElem?_getD,List.getElem?_map,List.getElem?_range h];rfl
theorem lL(l:List St)(n:Nat)(s:St)(L:List Rw):(bP l n s L).verdict=2∨(bP l n s L).verdict=3∨(bP l n s L).verdict=4∨(bP l n s L).verdict=5:=by
 unfold bP gi;generalize (if(nF (bR l n s).1).isNone=true/\((bR l n s).2.1==0)=true then b8 l n s (bR l n s).1 else(bR l n s).2)=f
 split
 ·split
  ·exact Or.inr (Or.inl rfl)
  ·split
   ·exact Or.inr (Or.inr (Or.inr rfl))
   ·exact Or.inr (Or.inr (Or.inl rfl))
 ·exact Or.inl rfl
theorem E0{l:List St}{a n:Nat}(h:Dr l a n):n<a:=by
 obtain⟨s,hs,-,hh⟩:=h;unfold b7 at hh;rw[hs]at hh;simp only[Bool.and_eq_true,decide_eq_true_eq]at hh;exact hh.1
def xp(R:List St)(a:Nat)(vs:List ByteArray)(k i j:Nat):Bool:=(List.range k).any (fun n=>jg R a n&&(aT vs (bS R n)).contains i&&(aT vs (bS R n)).contains j)
theorem uw(side mi:Nat)(mem:List Nat)(ms:List Bool)(q:Nat)(hq:q<ms.length):(gq side mi mem ms).getD q false=(ms.getD q false||mem.any (fun mj=>mi*side+mj==q)):=by
 unfold gq
 induction mem generalizing ms with
 | nil=>simp
 | cons m mem ih =>
  simp only[List.foldl_cons,List.any_cons];rw[ih (ms.set (mi*side+m) true) (by simpa using hq)]
  by_cases e:mi*side+m=q
  ·subst e
   rw[List.getD_eq_getElem?_getD,List.getElem?_set_self hq];simp
  ·have e2:(mi*side+m==q)=false:=by rw[beq_eq_false_iff_ne];exact e
   rw[List.getD_eq_getElem?_getD,List.getElem?_set_ne e,<-List.getD_eq_getElem?_getD,e2,Bool.false_or]
theorem uv(side:Nat)(mem r:List Nat)(ms:List Bool)(q:Nat)(hq:q<ms.length):(r.foldl (fun ms mi=>gq side mi mem ms) ms).getD q false=(ms.getD q false||r.any (fun mi=>mem.any (fun mj=>mi*side+mj==q))):=by
 induction r generalizing ms with
 | nil=>simp
 | cons m r ih =>
  simp only[List.foldl_cons,List.any_cons];rw[ih (gq side m mem ms) (by rw[kn];exact hq),uw side m mem ms q hq,Bool.or_assoc]
theorem uD{side i j a b:Nat}(hb:b<side)(hj:j<side)(h:a*side+b=i*side+j):a=i/\b=j:=by
 have h1:(a*side+b) / side=a:=by rw[Nat.mul_comm,Nat.mul_add_div (by omega)];rw[Nat.div_eq_of_lt hb];omega
 have h2:(i*side+j) / side=i:=by rw[Nat.mul_comm,Nat.mul_add_div (by omega)];rw[Nat.div_eq_of_lt hj];omega
 rw[h]at h1;have:a=i:=by omega
 subst this;exact⟨rfl,by omega⟩
theorem zA(R:List St)(a:Nat)(vs:List ByteArray)(k i j:Nat)(hi:i<vs.length)(hj:j<vs.length):(bA R a vs k).getD (i*vs.length+j) false=xp R a vs k i j:=by
 have hq:i*vs.length+j<vs.length*vs.length:=rQ hi hj
 induction k with
 | zero =>
  unfold xp;rw[bA,List.getD_eq_getElem?_getD,List.getElem?_replicate,if_pos hq];rfl
 | succ k ih =>
  have hT:xp R a vs (k+1) i j=(xp R a vs k i j||(jg R a k&&(aT vs (bS R k)).contains i&&(aT vs (bS R k)).contains j)):=by
   unfold xp;rw[List.range_succ,List.any_append];simp
  rw[hT,bA]
  cases hd:jg R a k
  ·simp only[Bool.false_eq_true,if_false,Bool.false_and,Bool.or_false]
   exact ih
  ·simp only[if_true,Bool.true_and]
   unfold gZ;rw[uv _ _ _ _ _ (by rw[fW];exact hq),ih]
   congr 1
   rw[Bool.eq_iff_iff];simp only[List.any_eq_true,Bool.and_eq_true,List.contains_iff_mem,beq_iff_eq]
   constructor
   ·rintro ⟨mi,h1,mj,h2,he⟩
    obtain⟨i2,e2⟩:=List.getElem_of_mem h2;have hlt:=mI vs (bS R k) i2 e2.1;rw[e2.2]at hlt;obtain⟨rfl,rfl⟩:=uD hlt hj he;exact⟨h1,h2⟩
   ·rintro ⟨h1,h2⟩
    exact⟨i,h1,j,h2,rfl⟩
theorem yM(R:List St)(a:Nat)(vs:List ByteArray)(i j:Nat)(hi:i<vs.length)(hj:j<vs.length):bW vs.length (ce R a vs) i j=(!(i==j)&&xp R a vs R.length i j):=by
 unfold bW ce;rw[zA R a vs R.length i j hi hj]
end Go.Proofs.YtlbhbocbakijbaaGreat

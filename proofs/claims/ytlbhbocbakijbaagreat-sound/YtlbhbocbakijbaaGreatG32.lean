import Derived.Test.YtlbhbocbakijbaaGreatG22
import Derived.Test.YtlbhbocbakijbaaGreatG31
namespace Go.Proofs.YtlbhbocbakijbaaGreat
open Go.RowKit
set_option maxHeartbeats 0
def FJ(l:List St)(a:Nat)(x y:ByteArray):Prop:=∃n,n<l.length/\jg l a n=true/\x∈bS l n/\y∈bS l n
theorem gS{vs ws:List ByteArray}{i:Nat}:i∈aT vs ws ↔ ∃x∈ws,aL vs x=some i:=by
 unfold aT;simp[List.mem_filterMap]
theorem pM{vs:List ByteArray}{x y:ByteArray}{i:Nat}(h1:aL vs x=some i)(h2:aL vs y=some i):x=y:=by
 have a:=List.find?_some h1;have b:=List.find?_some h2;exact(bV (eq_of_beq a)).symm.trans (bV (eq_of_beq b))
theorem mW(l:List St)(a:Nat)(vs:List ByteArray){x y:ByteArray}{i j:Nat}(h1:aL vs x=some i)(h2:aL vs y=some j):bW vs.length (ce l a vs) i j=true ↔ x≠y/\FJ l a x y:=by
 rw[yM l a vs i j (iD h1) (iD h2)];unfold xp FJ;simp only[Bool.and_eq_true,Bool.not_eq_true',beq_eq_false_iff_ne,List.any_eq_true,List.mem_range,List.contains_iff_mem]
 constructor
 ·rintro ⟨g,n,hn,⟨hd,c1⟩,c2⟩
  obtain⟨x',m1,e1⟩:=gS.1 c1;obtain⟨y',m2,e2⟩:=gS.1 c2;rw[<-pM h1 e1]at m1;rw[<-pM h2 e2]at m2;exact⟨fun e=>g (by rw[e,h2]at h1;exact(Option.some.inj h1).symm),n,hn,hd,m1,m2⟩
 ·rintro ⟨g,n,hn,hd,m1,m2⟩
  exact⟨fun e=>g (by rw[e]at h1;exact pM h1 h2),n,hn,⟨hd,gS.2 ⟨x,m1,h1⟩⟩,gS.2 ⟨y,m2,h2⟩⟩
theorem FJ.symm{l:List St}{a:Nat}{x y:ByteArray}(h:FJ l a x y):FJ l a y x:=by
 obtain⟨n,a,b,c,d⟩:=h;exact⟨n,a,b,d,c⟩
theorem Fu{D:Type}(M:qu D)(hs:∀a b,M.ap a b->M.ap b a)(V:ByteArray->D)(l:List St)(n:Nat)(hu:(gR l n).Nodup)
  (h:∀i j,i<j->j<(gR l n).length->bW (gR l n).length (ce l n (gR l n)) i j=true->M.ap (V ((gR l n).getD i ⟨#[]⟩)) (V ((gR l n).getD j ⟨#[]⟩)))
  {x y:ByteArray} (hx:x∈gR l n) (hy:y∈gR l n) (hne:x≠y) (ht:FJ l n x y):M.ap (V x) (V y):=by
 have one:∀{z:ByteArray},z∈gR l n->∃i,i<(gR l n).length/\(gR l n).getD i ⟨#[]⟩=z/\aL (gR l n) z=some i:=by
  intro z hz;obtain⟨i,hi,e⟩:=List.getElem_of_mem hz;have e2:(gR l n).getD i ⟨#[]⟩=z:=by rw[List.getD_eq_getElem?_getD,List.getElem?_eq_getElem hi];exact e
  exact⟨i,hi,e2,e2 ▸ kU hu hi⟩
 obtain⟨i,hi,ei,pi⟩:=one hx;obtain⟨j,hj,ej,pj⟩:=one hy;have hij:i≠j:=fun e=>hne (by rw[<-ei,<-ej,e])
 rcases Nat.lt_or_gt_of_ne hij with g | g
 ·have:=h i j g hj ((mW l n _ pi pj).2 ⟨hne,ht⟩)
  rwa [ei,ej]at this
 ·have:=h j i g hi ((mW l n _ pj pi).2 ⟨hne.symm,ht.symm⟩)
  rw[ei,ej]at this;exact hs _ _ this
def Bi(l:List St)(a:Nat)(x:ByteArray):Option Nat:=(List.range l.length).find? (fun k=>match f7 l a k with | some v=>v.toList==x.toList | none=>false)
def Ec{D:Type}(l:List St)(n:Nat)(K dm:ByteArray->D)(V:ByteArray->D)(x:ByteArray):D :=
 if(aL (gR l n) x).isSome=true then V x else match Bi l n x with | some k=>dm (aR (l.getD k dD)) | none=>K x
theorem tC{l:List St}{a:Nat}{x:ByteArray}{k:Nat}(h:Bi l a x=some k):f7 l a k=some x:=by
 have:=List.find?_some h
 cases g:f7 l a k with
 | none=>rw[g]at this;simp at this
 | some v=>rw[g]at this;simp only at this;rw[bV (eq_of_beq this)]
theorem Bj{l:List St}{a:Nat}{x:ByteArray}(h:Bi l a x=none)(k:Nat)(hk:k<l.length):f7 l a k≠some x:=by
 intro g;have:=List.find?_eq_none.1 h k (by simpa using hk);rw[g]at this;simp at this
structure GI(l:List St)(n:Nat)(steps:List fk):Prop where
 me:A9 l n
 av:∀x,x∈gR l n->x∈jM l n
 one:∀j k x,f7 l n j=some x->f7 l n k=some x->j=k
 fl:∀s∈steps,(s.kind==3)=false->dW l s.number=false->(s.number∈aq l n∨∃x,f7 l n s.number=some x/\x∉gR l n/\(l.getD s.number dD).symbols=[aR (l.getD s.number dD),x])/\(l.getD s.number dD).symbols≠[]
 own:∀x,Dy l n x->x∉gR l n->x∉jM l n
 use:∀s∈steps,(s.kind==3)=false->dW l s.number=true->A9 l s.number/\∀x,Dy l s.number x->x∉gR l s.number->x∉jM l n
theorem pC{l:List St}{n:Nat}{x:ByteArray}:x∈jM l n ↔ ∃k,k<l.length/\f7 l n k=some x:=by
 unfold jM jU;simp[List.mem_filterMap]
theorem v7{D:Type}{l:List St}{n:Nat}{K dm V:ByteArray->D}{x:ByteArray}(h:x∈gR l n):Ec l n K dm V x=V x:=by
 unfold Ec
 cases g:aL (gR l n) x with
 | none=>rw[b9]at g;exact absurd h g
 | some i=>rfl
theorem v8{D:Type}{l:List St}{n:Nat}{K dm V:ByteArray->D}{x:ByteArray}(h:x∉jM l n)(h2:x∉gR l n):Ec l n K dm V x=K x:=by
 unfold Ec;rw[b9.2 h2]
 cases g:Bi l n x with
 | none=>rfl
 | some k =>
  have e:=tC g;have hk:k<l.length:=by have:=List.mem_of_find?_eq_some g;simpa using this
  exact absurd (pC.2 ⟨k,hk,e⟩) h
theorem vZ{D:Type}{l:List St}{n:Nat}{K dm V:ByteArray->D}{x:ByteArray}(h:x∈jM l n)(h2:x∉gR l n):∃k,f7 l n k=some x/\Ec l n K dm V x=dm (aR (l.getD k dD)):=by
 unfold Ec;rw[b9.2 h2]
 cases g:Bi l n x with
 | none=>obtain⟨k,hk,e⟩:=pC.1 h;exact absurd e (Bj g k hk)
 | some k=>exact⟨k,tC g,rfl⟩
theorem oq{D:Type}(M:qu D){V W:ByteArray->D}{e:List ByteArray}(h:∀x∈e,V x=W x):vt M V e ↔ vt M W e:=by
 cases e with
 | nil=>exact Iff.rfl
 | cons t r=>show M.ok t _ ↔ M.ok t _;rw[yH M (fun x hx=>h x (by simp[hx]))]
theorem Ax{D:Type}(M:qu D)(K dm:ByteArray->D)(hs:∀a b,M.ap a b->M.ap b a)(hK:∀x d,M.ap (K x) d)(hd:∀t d,M.ap (dm t) d)(hok:∀t,M.ok t (dm t))(l:List St)(n:Nat)(steps:List fk)(T:GI l n steps)
  (hu:∀s∈steps,(s.kind==3)=false->dW l s.number=true->rX M K l s.number) (fin:Pl)
  (h0:((dC l (jM l n) (ce l n (jM l n)) fin (l.getD n dD).symbols steps ([],[])).1==0)=true):rX M K l n:=by
 intro V v1 v2 v3
 have agree:∀x,Dy l n x->Ec l n K dm V x=V x:=by
  intro x hx
  by_cases c:x∈gR l n
  ·exact v7 c
  ·rw[v8 (T.own x hx c) c,v1 x hx (b9.2 c)]
 have E:Gw M K (Ec l n K dm V) l n (jM l n) (ce l n (jM l n)) steps:=by
  refine⟨fun s h k i=>⟨?_,(T.fl s h k i).2⟩,fun s h k i=>⟨(T.use s h k i).1,hu s h k i,fun x hx hp=>?_⟩,fun x hx d=>?_,fun i j hi hj ha x y px py=>?_⟩
  ·rcases(T.fl s h k i).1 with g | ⟨x,g1,g2,g3⟩
   ·exact(oq M (fun x hx=>agree x (Or.inr ⟨_,g,hx⟩))).2 (v2 _ g)
   ·rw[g3]
    show M.ok _ (M.mul (Ec l n K dm V x) M.one)
    rw[M.oneR]
    have hk:s.number<l.length:=by
     unfold f7 at g1
     cases c:l[s.number]? with
     | none=>rw[c]at g1;cases g1
     | some z=>exact(List.getElem?_eq_some_iff.1 c).1
    obtain⟨k',e1,e2⟩:=vZ (K:=K) (dm:=dm) (V:=V) (pC.2 ⟨_,hk,g1⟩) g2;rw[e2,T.one _ _ _ e1 g1];exact hok _
  ·have:=(T.use s h k i).2 x hx (b9.1 hp)
   exact v8 this (fun c=>this (T.av x c))
  ·have hn:=b9.1 hx
   rw[v8 hn (fun c=>hn (T.av x c))];exact⟨hK x d,hs _ _ (hK x d)⟩
  ·obtain⟨hne,ht⟩:=(mW l n _ px py).1 ha
   have mx:x∈jM l n:=Classical.byContradiction (fun c=>by rw[b9.2 c]at px;cases px);have my:y∈jM l n:=Classical.byContradiction (fun c=>by rw[b9.2 c]at py;cases py)
   by_cases c1:x∈gR l n
   ·by_cases c2:y∈gR l n
    ·rw[v7 c1,v7 c2]
     exact Fu M hs V l n T.me.hy.uq v3 c1 c2 hne ht
    ·obtain⟨k,-,e⟩:=vZ (K:=K) (dm:=dm) (V:=V) my c2
     rw[e];exact hs _ _ (hd _ _)
   ·obtain⟨k,-,e⟩:=vZ (K:=K) (dm:=dm) (V:=V) mx c1
    rw[e];exact hd _ _
 exact(oq M (fun x hx=>agree x (Or.inl hx))).1 (qG E fin _ steps ([],[]) (fun s h=>h) (by intro e he;cases he) (by intro e he;cases he) h0)
section
variable {d:Db} {P:ByteArray->Prop}
theorem kg{l:List St}{n a:Nat}{s:St}(hs:l[n]?=some s):b7 l n a=true ↔ n<a/\(s.til=0∨a<s.til):=by
 unfold b7;rw[hs];simp
theorem rq(V:Vr d){k h a:Nat}{u s:St}(hkh:k<h)(hu:d.sts[k]?=some u)(hs:d.sts[h]?=some s)(ha:jt s.kind=false)(h1:u.til=0∨h<u.til)(h2:b7 d.sts h a=true):b7 d.sts k a=true:=by
 rw[kg hs]at h2;rw[kg hu];refine⟨by omega,?_⟩
 by_cases c:u.til=0
 ·exact Or.inl c
 ·have:=V.nest k h u s hkh hu hs ha c (h1.resolve_left c)
  omega
theorem gW{l:List St}{a n:Nat}:n∈aq l a ↔ ∃s,l[n]?=some s/\b7 l n a=true/\((s.kind=2/\al s∈cc l a)∨s.kind=3):=by
 unfold aq cd;rw[List.mem_filter,List.mem_range]
 constructor
 ·rintro ⟨h1,h2⟩
  unfold gn at h2;rw[List.getElem?_eq_getElem h1]at h2;simp only[Bool.and_eq_true]at h2;refine⟨l[n],List.getElem?_eq_getElem h1,h2.1,?_⟩;have h3:=h2.2;unfold jR at h3
  split at h3
  ·next c=>exact Or.inl ⟨by simpa using c,(f9 _ _).1 h3⟩
  ·exact Or.inr (by simpa using h3)
 ·rintro ⟨s,hs,hh,hk⟩
  refine⟨(List.getElem?_eq_some_iff.1 hs).1,?_⟩;unfold gn;rw[hs];simp only[Bool.and_eq_true];refine⟨hh,?_⟩;unfold jR
  rcases hk with ⟨k,m⟩ | k
  ·rw[if_pos (by rw[k];rfl)];exact(f9 _ _).2 m
  ·rw[if_neg (by rw[k];decide),k];rfl
theorem qk{l:List St}{a:Nat}{x:ByteArray}:x∈cc l a ↔ x∈bS l a∨∃(h:Nat) (s:St),l[h]?=some s/\s.kind=3/\b7 l h a=true/\x∈s.symbols:=by
 unfold cc cO;rw[List.mem_append,List.mem_flatMap];refine or_congr Iff.rfl ⟨?_,?_⟩
 ·rintro ⟨h,h1,h2⟩
  rw[List.mem_filter,List.mem_range]at h1;have h3:=h1.2;unfold oc at h3;unfold bS at h2;rw[List.getElem?_eq_getElem h1.1]at h3 h2;simp only[Bool.and_eq_true]at h3;exact⟨h,l[h],List.getElem?_eq_getElem h1.1,by simpa using h3.1,h3.2,h2⟩
 ·rintro ⟨h,s,hs,hk,hh,hx⟩
  refine⟨h,?_,by unfold bS;rw[hs];exact hx⟩;rw[List.mem_filter,List.mem_range];refine⟨(List.getElem?_eq_some_iff.1 hs).1,?_⟩;unfold oc;rw[hs];simp[hk,hh]
theorem lI{l:List St}{n:Nat}{s:St}(h:l[n]?=some s):l.getD n dD=s:=by rw[List.getD_eq_getElem?_getD,h];rfl
theorem kK(N:Nm P d){n:Nat}{s:St}(hs:d.sts[n]?=some s)(hk:s.kind=2):s.symbols=[aR s,al s]/\al s=vp s/\aR s∈d.constants:=by
 have o:=N.sts s (List.mem_of_getElem? hs);have h2:=o.two hk;obtain⟨c,r,e,hc⟩:=o.code (by omega)
 obtain⟨v,rfl⟩:∃v,r=[v]:=by
  rw[e]at h2
  match r,h2 with
  | [v],_=>exact⟨v,rfl⟩
 have t:aR s=c:=by unfold aR;rw[e];rfl
 have v1:vp s=v:=by unfold vp;rw[e];rfl
 have v2:al s=vp s:=by unfold al vp;rw[if_pos ⟨by rw[hk];rfl,by omega⟩]
 exact⟨by rw[v2,v1,t,e],v2,by rw[t];exact(f9 _ _).1 hc⟩
theorem pD{l:List St}{a:Nat}{x:ByteArray}:x∈gR l a ↔ ∃(n:Nat) (s:St),l[n]?=some s/\b7 l n a=true/\s.kind=2/\al s=x/\x∈cc l a:=by
 unfold gR iJ;rw[List.mem_filterMap]
 constructor
 ·rintro ⟨n,hn,e⟩
  obtain⟨s,hs,hh,hk⟩:=gW.1 hn;rw[lI hs]at e
  rcases hk with ⟨k,m⟩ | k
  ·rw[k,if_neg (by decide)]at e
   have e:=Option.some.inj e;exact⟨n,s,hs,hh,k,e,e ▸ m⟩
  ·rw[k,if_pos (by decide)]at e;cases e
 ·rintro ⟨n,s,hs,hh,hk,e,m⟩
  refine⟨n,gW.2 ⟨s,hs,hh,Or.inl ⟨hk,e ▸ m⟩⟩,?_⟩;rw[lI hs,hk,if_neg (by decide),e]
theorem FX(N:Nm P d)(V:Vr d){a:Nat}{x:ByteArray}(ha:dW d.sts a=true)(hx:Dy d.sts a x):x∈d.constants∨x∈gR d.sts a:=by
 have get:∀{m:Nat} {s:St},d.sts[m]?=some s->3<=s.kind->x∈s.symbols->(m=a∨(jt s.kind=false/\b7 d.sts m a=true))->x∈cc d.sts a->x∈d.constants∨x∈gR d.sts a:=by
  intro m s hs hk hxs hm hsy;have o:=N.sts s (List.mem_of_getElem? hs);have hk5:=o.kind
  rcases V.st m s hs (by omega) x hxs with h | ⟨-,h⟩
  ·exact Or.inl h
  ·obtain⟨k,u,k1,k2,k3,k4,k5⟩:=h (by omega)
   refine Or.inr (pD.2 ⟨k,u,k2,?_,k3,?_,hsy⟩)
   ·rcases hm with rfl | ⟨ha,hh⟩
    ·exact(kg k2).2 ⟨k1,k5⟩
    ·exact rq V k1 k2 hs ha k5 hh
   ·rw[(kK N k2 k3).2.1];exact k4
 rcases hx with hx | ⟨h,hh,hx⟩
 ·unfold dW at ha
  cases hs:d.sts[a]? with
  | none=>rw[hs]at ha;cases ha
  | some s =>
   rw[hs]at ha;simp only at ha;rw[lI hs]at hx;have k:s.kind=4∨s.kind=5:=by unfold jt at ha;simpa using ha
   exact get hs (by omega) hx (Or.inl rfl) (qk.2 (Or.inl (by unfold bS;rw[hs];exact hx)))
 ·obtain⟨s,hs,hl,hk⟩:=gW.1 hh
  rw[lI hs]at hx
  rcases hk with ⟨k,m⟩ | k
  ·obtain⟨t1,t2,t3⟩:=kK N hs k
   rw[t1]at hx;simp only[List.mem_cons,List.not_mem_nil,or_false]at hx
   rcases hx with rfl | rfl
   ·exact Or.inl t3
   ·exact Or.inr (pD.2 ⟨h,s,hs,hl,k,rfl,m⟩)
  ·exact get hs (by omega) hx (Or.inr ⟨by rw[k];rfl,hl⟩) (qk.2 (Or.inr ⟨h,s,hs,k,hl,hx⟩))
theorem oE{l:List St}{a k:Nat}{x:ByteArray}:f7 l a k=some x ↔ ∃s,l[k]?=some s/\s.kind=2/\b7 l k a=true/\al s=x:=by
 unfold f7
 cases hs:l[k]? with
 | none=>simp
 | some s=>simp[and_assoc]
theorem BJ(N:Nm P d)(V:Vr d){n:Nat}{s:St}(hs:d.sts[n]?=some s)(hk:s.kind=2):al s∈d.variables:=by
 rw[(kK N hs hk).2.1];exact V.fl n s hs hk
theorem Fb(N:Nm P d)(V:Vr d){a:Nat}{x:ByteArray}(h:x∈jM d.sts a):x∈d.variables:=by
 obtain⟨k,-,e⟩:=pC.1 h;obtain⟨s,hs,hk,-,rfl⟩:=oE.1 e;exact BJ N V hs hk
theorem Cl(N:Nm P d)(V:Vr d){a:Nat}{x:ByteArray}(h:x∈gR d.sts a):x∈d.variables:=by
 obtain⟨n,s,hs,-,hk,rfl,-⟩:=pD.1 h;exact BJ N V hs hk
theorem BI(N:Nm P d)(V:Vr d){a j k:Nat}{s u:St}(h1:d.sts[j]?=some s)(h2:d.sts[k]?=some u)(k1:s.kind=2)(k2:u.kind=2)(g1:b7 d.sts j a=true)(g2:b7 d.sts k a=true)(e:al s=al u):j=k:=by
 rw[(kK N h1 k1).2.1,(kK N h2 k2).2.1]at e;rw[kg h1]at g1;rw[kg h2]at g2
 rcases Nat.lt_trichotomy j k with c | c | c
 ·exact absurd e (V.ds j k s u h1 h2 k1 k2 c (by omega))
 ·exact c
 ·exact absurd e.symm (V.ds k j u s h2 h1 k2 k1 c (by omega))
theorem o4(l:List St)(a:Nat):(aq l a).Pairwise (· < ·):=by
 unfold aq cd;exact List.pairwise_lt_range.filter _
theorem qT(N:Nm P d)(V:Vr d){a:Nat}(ha:dW d.sts a=true):A9 d.sts a:=by
 have tcN:∀{m:Nat} {s:St},d.sts[m]?=some s->2<=s.kind/\s.kind<=5->s.symbols≠[]/\aL (gR d.sts a) (aR s)=none:=by
  intro m s hs hk;obtain⟨c,r,e,hc⟩:=(N.sts s (List.mem_of_getElem? hs)).code hk;refine⟨by rw[e];simp,?_⟩;have t:aR s=c:=by unfold aR;rw[e];rfl
  rw[t,b9];intro hm;exact V.cv c ((f9 _ _).1 hc) (Cl N V hm)
 have hyk:∀h∈aq d.sts a,∃s,d.sts[h]?=some s/\b7 d.sts h a=true/\(s.kind=2∨s.kind=3):=fun h hh=>by
  obtain⟨s,hs,hl,hk⟩:=gW.1 hh;exact⟨s,hs,hl,hk.imp (·.1) id⟩
 obtain⟨sa,hsa,hka⟩:∃s,d.sts[a]?=some s/\(s.kind=4∨s.kind=5):=by
  unfold dW at ha
  cases hs:d.sts[a]? with
  | none=>rw[hs]at ha;cases ha
  | some s=>rw[hs]at ha;exact⟨s,rfl,by unfold jt at ha;simpa using ha⟩
 have own:=tcN hsa (by omega);refine⟨⟨?_,?_,?_,?_,?_⟩,by rw[lI hsa];exact own.1,by rw[lI hsa];exact own.2⟩
 ·intro h hh k3
  obtain⟨s,hs,-,hk⟩:=hyk h hh;rw[lI hs]at k3 ⊢;have k2:s.kind=2:=hk.resolve_right (fun e=>by rw[e]at k3;cases k3);exact(kK N hs k2).1
 ·intro h hh
  obtain⟨s,hs,-,hk⟩:=hyk h hh;rw[lI hs];exact(tcN hs (by omega)).1
 ·intro h hh
  obtain⟨s,hs,-,hk⟩:=hyk h hh;rw[lI hs];exact(tcN hs (by omega)).2
 ·unfold iJ List.Nodup
  rw[List.pairwise_filterMap];refine(o4 d.sts a).imp_of_mem ?_;intro i j hi hj hij x e1 y e2 hxy;obtain⟨s,hs,hl,hk⟩:=hyk i hi;obtain⟨u,hu,hm,hq⟩:=hyk j hj;rw[lI hs]at e1;rw[lI hu]at e2;have k1:s.kind=2:=hk.resolve_right (fun e=>by rw[e,if_pos (by decide)]at e1;cases e1);have k2:u.kind=2:=hq.resolve_right (fun e=>by rw[e,if_pos (by decide)]at e2;cases e2);rw[k1,if_neg (by decide)]at e1;rw[k2,if_neg (by decide)]at e2;have:=BI N V hs hu k1 k2 hl hm (by rw[Option.some.inj e1,Option.some.inj e2,hxy]);omega
 ·intro ah h bs e k3 x hx hn
  have hh:h∈aq d.sts a:=by rw[e];simp
  obtain⟨s,hs,hl,hk⟩:=hyk h hh;rw[lI hs]at k3 hx;have k3':s.kind=3:=by simpa using k3
  rw[b9];intro hm
  have hmv:x∈gR d.sts a:=by
   unfold gR;rw[e];unfold iJ at hm ⊢;rw[List.filterMap_append,List.filterMap_cons];rw[List.mem_append]
   right
   split
   ·exact hm
   ·exact List.mem_cons_of_mem _ hm
  rcases V.st h s hs (by omega) x hx with c | ⟨-,c⟩
  ·exact V.cv x c (Cl N V hmv)
  ·obtain⟨k,u,q1,q2,q3,q4,q5⟩:=c (by omega)
   have qh:=rq V q1 q2 hs (by rw[k3'];rfl) q5 hl;have qv:al u=x:=by rw[(kK N q2 q3).2.1];exact q4
   have qm:k∈aq d.sts a:=gW.2 ⟨u,q2,qh,Or.inl ⟨q3,by rw[qv];exact qk.2 (Or.inr ⟨h,s,hs,k3',hl,hx⟩)⟩⟩;have pw:=o4 d.sts a;rw[e]at qm pw
   have kah:k∈ah:=by
    rcases List.mem_append.1 qm with z | z
    ·exact z
    ·rcases List.mem_cons.1 z with z | z
     ·omega
     ·have:=(List.pairwise_cons.1 (List.pairwise_append.1 pw).2.1).1 k z;omega
   rw[b9]at hn
   apply hn
   unfold iJ;rw[List.mem_filterMap];exact⟨k,kah,by rw[lI q2,q3,if_neg (by decide),qv]⟩
def GH(l:List St)(a:Nat)(L:List fk):Prop:=∀s∈L,s.kind=3∨(s.kind=2/\Dr l a s.number)
theorem Gp(N:Nm P d)(V:Vr d){a:Nat}(ha:dW d.sts a=true){steps:List fk}(hg:GH d.sts a steps):GI d.sts a steps:=by
 have no:∀{m:Nat} {x:ByteArray},dW d.sts m=true->Dy d.sts m x->x∉gR d.sts m->x∉jM d.sts a:=fun hm hx hn hv=>by
  rcases FX N V hm hx with h | h
  ·exact V.cv _ h (Fb N V hv)
  ·exact hn h
 refine⟨qT N V ha,?_,?_,?_,fun x hx hn=>no ha hx hn,fun s hs k i=>⟨qT N V i,fun x hx hn=>no i hx hn⟩⟩
 ·intro x hx
  obtain⟨n,s,hs,hh,hk,e,-⟩:=pD.1 hx;exact pC.2 ⟨n,(List.getElem?_eq_some_iff.1 hs).1,oE.2 ⟨s,hs,hk,hh,e⟩⟩
 ·intro j k x h1 h2
  obtain⟨s,hs,ks,hl,es⟩:=oE.1 h1;obtain⟨u,hu,ku,hm,eu⟩:=oE.1 h2;exact BI N V hs hu ks ku hl hm (es.trans eu.symm)
 ·intro s hs k3 hi
  rcases hg s hs with c | ⟨-,u,hu,ku,hh⟩
  ·rw[c]at k3;cases k3
  ·have o:=N.sts u (List.mem_of_getElem? hu)
   have kk:u.kind=2∨u.kind=3:=by
    have h1:=o.kind;have h2:u.kind≠1:=by simpa using ku
    unfold dW at hi;rw[hu]at hi;have h3:u.kind≠4/\u.kind≠5:=by unfold jt at hi;simpa using hi
    omega
   rw[lI hu];obtain⟨c,r,e,-⟩:=o.code (by omega);refine⟨?_,by rw[e];simp⟩
   rcases kk with kk | kk
   ·by_cases m:al u∈cc d.sts a
    ·exact Or.inl (gW.2 ⟨u,hu,hh,Or.inl ⟨kk,m⟩⟩)
    ·refine Or.inr ⟨al u,oE.2 ⟨u,hu,kk,hh,rfl⟩,fun hm=>?_,(kK N hu kk).1⟩
     obtain⟨n,v,-,-,-,-,hx⟩:=pD.1 hm;exact m hx
   ·exact Or.inl (gW.2 ⟨u,hu,hh,Or.inr kk⟩)
end
end Go.Proofs.YtlbhbocbakijbaaGreat

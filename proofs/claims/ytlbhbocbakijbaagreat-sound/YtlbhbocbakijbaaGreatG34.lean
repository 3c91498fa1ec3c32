import Derived.Test.YtlbhbocbakijbaaGreatG23
import Derived.Test.YtlbhbocbakijbaaGreatG26
import Derived.Test.YtlbhbocbakijbaaGreatG30
import Derived.Test.YtlbhbocbakijbaaGreatG32
import Derived.Test.YtlbhbocbakijbaaGreatG33
namespace Go.Proofs.YtlbhbocbakijbaaGreat
open Go.RowKit
set_option maxHeartbeats 0
theorem RP.trans{l:List St}{L:List Rw}{a b c:Nat}(h1:RP l L a b)(h2:RP l L b c):RP l L a c:=fun P h0 hs=>h2 P (h1 P h0 hs) hs
theorem RP.self{l:List St}{L:List Rw}{a:Nat}:RP l L a a:=fun _ h _=>h
theorem vo{l:List St}{n:Nat}{s:St}(hs:l[n]?=some s)(h4:s.kind≠4)(h:(bq l n).verdict=5) :
  s.kind=5/\GH l n (bR l n s).1/\((b8 l n s (bR l n s).1).1==0)=true/\jo (aK l n) (bR l n s).1=true:=by
 unfold bq fD at h;rw[hs]at h;simp only at h;rw[if_neg (by simpa using h4)]at h
 split at h
 ·next h5 =>
  refine⟨by simpa using h5,?_⟩;unfold bP gi at h;generalize hf:(if(nF (bR l n s).1).isNone=true/\((bR l n s).2.1==0)=true then b8 l n s (bR l n s).1 else(bR l n s).2)=f at h
  split at h
  ·next h0 =>
   split at h
   ·cases h
   ·next hu =>
    split at h
    ·next hr =>
     have hp:((b8 l n s (bR l n s).1).1==0)=true:=by
      by_cases c:(nF (bR l n s).1).isNone=true/\((bR l n s).2.1==0)=true
      ·rw[if_pos c]at hf;rw[hf];exact h0
      ·rw[if_neg c]at hf
       exact absurd ⟨by rw[hu];rfl,by rw[hf];exact h0⟩ c
     refine⟨?_,hp,hr⟩;intro q hq;obtain⟨i,hi⟩:=List.getElem?_of_mem hq
     rcases yx l n s i q hi with g | ⟨g,-⟩ | g
     ·unfold nF at hu
      rw[List.find?_eq_none]at hu;have:=hu i (List.mem_range.2 (List.getElem?_eq_some_iff.1 hi).1);rw[hi]at this;simp only at this;rw[g]at this;exact absurd rfl this
     ·exact Or.inl g
     ·exact Or.inr g
    ·cases h
  ·cases h
 ·cases h
theorem vb{d:Db}{P:ByteArray->Prop}(N:Nm P d)(V:Vr d){D:Type}(M:qu D)(K dm:ByteArray->D)(hs:∀a b,M.ap a b->M.ap b a)(hK:∀x e,M.ap (K x) e)(hd:∀t e,M.ap (dm t) e)(hok:∀t,M.ok t (dm t)) :
  ∀n,(bq d.sts n).verdict=5->(∀m,RP d.sts (aK d.sts d.sts.length) n m->(bq d.sts m).verdict=1->rX M K d.sts m)->rX M K d.sts n:=by
 intro n
 induction n using Nat.strongRecOn with
 | ind n ih =>
  intro h5 hax
  cases hq:d.sts[n]? with
  | none=>unfold bq fD at h5;rw[hq]at h5;cases h5
  | some s =>
   have hn:=(List.getElem?_eq_some_iff.1 hq).1
   have h4:s.kind≠4:=fun e=>by
    have:=(mM hq).2.1;rw[h5,e]at this;cases this
   obtain⟨k5,hg,hp,hr⟩:=vo hq h4 h5;have ha:dW d.sts n=true:=by unfold dW;rw[hq];simp only;rw[k5];rfl
   have hpv:jT (aK d.sts d.sts.length) n=true:=by unfold jT;rw[kL d.sts hn,h5];rfl
   refine Ax M K dm hs hK hd hok d.sts n (bR d.sts n s).1 (Gp N V ha hg) (fun q hqm k3 hi=>?_) s.fin (by rw[lI hq];exact hp)
   rcases hg q hqm with c | ⟨c,hh⟩
   ·rw[c]at k3;cases k3
   ·have hlt:=E0 hh
    have hnm:q.number∈iM d.sts n:=by
     unfold iM;rw[hq];refine List.mem_filterMap.2 ⟨q,hqm,?_⟩;unfold jB;rw[if_pos (by rw[c];rfl)]
    have hre:RP d.sts (aK d.sts d.sts.length) n q.number:=RP.self.step hpv hnm;have hb:=List.all_eq_true.1 hr q hqm;rw[c,kL d.sts hlt]at hb;obtain⟨u,hu,-⟩:=hh
    by_cases c4:u.kind=4
    ·refine hax _ hre ?_
     have:=(mM hu).2.1;rw[c4]at this;simpa using this
    ·have c5:u.kind=5:=by
      unfold dW at hi;rw[hu]at hi;simp only at hi;unfold jt at hi;have:u.kind=4∨u.kind=5:=by simpa using hi
      exact this.resolve_left c4
     have hv:(bq d.sts q.number).verdict=5:=by
      have e:bq d.sts q.number=bP d.sts q.number u (aK d.sts q.number):=by
       unfold bq fD;rw[hu];simp only;rw[if_neg (by rw[c5];decide),if_pos (by rw[c5];rfl)]
      rw[e]at hb ⊢
      rcases lL d.sts q.number u (aK d.sts q.number) with g | g | g | g
      ·rw[g]at hb;exact absurd hb (by decide)
      ·rw[g]at hb;exact absurd hb (by decide)
      ·rw[g]at hb;exact absurd hb (by decide)
      ·exact g
     exact ih _ hlt hv (fun m hm=>hax m (hre.trans hm))
def on(l:List St)(a:Nat):List Nat:=(aq l a).filter (fun h=>!((l.getD h dD).kind==3))
def GJ(l:List St)(a:Nat):List Nat:=(aq l a).filter (fun h=>(l.getD h dD).kind==3)
theorem DW(l:List St)(hs:List Nat):iJ l hs=(hs.filter (fun h=>!((l.getD h dD).kind==3))).map (fun h=>al (l.getD h dD)):=by
 unfold iJ
 induction hs with
 | nil=>rfl
 | cons h r ih =>
  rw[List.filterMap_cons,List.filter_cons]
  cases c:((l.getD h dD).kind==3) with
  | true=>rw[if_pos rfl];simp only[Bool.not_true,Bool.false_eq_true,if_false];exact ih
  | false=>simp only[Bool.false_eq_true,if_false,Bool.not_false,if_true,List.map_cons];rw[ih]
structure AZ(l:List St)(a:Nat)(f:Fm):Prop where
 vars:f.vars=gR l a
 types:f.types=(on l a).map (fun h=>aR (l.getD h dD))
 ess:f.ess=(GJ l a).map (fun h=>(l.getD h dD).symbols)
 left:f.left=(br l a).map (·.1)
 right:f.right=(br l a).map (·.2)
 goal:f.goal=(l.getD a dD).symbols
theorem nj(l:List St)(a:Nat):gR l a=(on l a).map (fun h=>al (l.getD h dD)):=DW l _
theorem BO(g:Nat->ByteArray)(L:List Nat)(i:Nat)(h:i<L.length):gD (L.map g) i=g L[i]:=by
 unfold gD;rw[List.getD_eq_getElem?_getD,List.getElem?_map,List.getElem?_eq_getElem h];rfl
def mf(n:dM):qu (Fin (n.mod+1)) where
 one:=⟨0,Nat.succ_pos _⟩
 mul a b:=⟨(a.val+b.val) % (n.mod+1),Nat.mod_lt _ (Nat.succ_pos _)⟩
 ok t d:=bL n t d.val=true
 ap _ _:=True
 oneL a:=Fin.ext (by show(0+a.val) % _=_;rw[Nat.zero_add,Nat.mod_eq_of_lt a.isLt])
 oneR a:=Fin.ext (by show(a.val+0) % _=_;rw[Nat.add_zero,Nat.mod_eq_of_lt a.isLt])
 assoc a b c:=Fin.ext (by show((a.val+b.val) % _+c.val) % _=(a.val+(b.val+c.val) % _) % _;rw[Nat.mod_add_mod,Nat.add_mod_mod,Nat.add_assoc])
 apOL _:=trivial
 apOR _:=trivial
 apL _ _ _ _ _:=trivial
 apR _ _ _ _ _:=trivial
def se(n:dM)(vars:List ByteArray)(vals:List Nat)(x:ByteArray):Fin (n.mod+1):=⟨jW n vars vals x % (n.mod+1),Nat.mod_lt _ (Nat.succ_pos _)⟩
def DK(n:dM)(x:ByteArray):Fin (n.mod+1):=se n [] [] x
theorem Fy(n:dM)(vars:List ByteArray)(vals:List Nat)(e:List ByteArray):∀a,a<n.mod+1->tg n vars vals e a=(a+(qx (mf n) (se n vars vals) e).val) % (n.mod+1):=by
 induction e with
 | nil=>intro a ha;show a=(a+0) % _;rw[Nat.add_zero,Nat.mod_eq_of_lt ha]
 | cons x r ih =>
  intro a ha
  show tg n vars vals r ((a+jW n vars vals x) % (n.mod+1))=(a+((jW n vars vals x % (n.mod+1))+(qx (mf n) (se n vars vals) r).val) % (n.mod+1)) % (n.mod+1)
  rw[ih _ (Nat.mod_lt _ (Nat.succ_pos _)),Nat.mod_add_mod,Nat.mod_add_mod,Nat.add_mod_mod,Nat.add_assoc]
theorem Dk(n:dM)(vars:List ByteArray)(vals:List Nat)(t:ByteArray)(r:List ByteArray):dN n (t :: r) vars vals=(qx (mf n) (se n vars vals) r).val:=by
 unfold dN
 show tg n vars vals r 0=_
 rw[Fy n vars vals r 0 (Nat.succ_pos _),Nat.zero_add,Nat.mod_eq_of_lt (Fin.isLt _)]
theorem mr(n:dM)(vars:List ByteArray)(vals:List Nat){e:List ByteArray}(he:e≠[]):vt (mf n) (se n vars vals) e ↔ bL n (gD e 0) (dN n e vars vals)=true:=by
 obtain⟨t,r,rfl⟩:=List.exists_cons_of_ne_nil he;rw[Dk];exact Iff.rfl
theorem Bv(n:dM){vars:List ByteArray}(vals:List Nat){x:ByteArray}(h:aL vars x=none):se n vars vals x=DK n x:=by
 unfold DK se
 apply Fin.ext
 show jW n vars vals x % _=jW n [] [] x % _
 have:aL [] x=none:=rfl;unfold jW;rw[h,this]
theorem xV{l:List St}{a:Nat}{f:Fm}(A:A9 l a)(F:AZ l a f){i:Nat}(h:i<(on l a).length):gD f.types i=aR (l.getD (on l a)[i] dD)/\aL f.vars (al (l.getD (on l a)[i] dD))=some i/\(l.getD (on l a)[i] dD).symbols=[aR (l.getD (on l a)[i] dD),al (l.getD (on l a)[i] dD)]/\(on l a)[i]∈aq l a:=by
 have hm:=List.mem_filter.1 (List.getElem_mem h);refine⟨by rw[F.types,BO _ _ _ h],?_,A.hy.two _ hm.1 (by simpa using hm.2),hm.1⟩;have hl:i<(gR l a).length:=by rw[nj,List.length_map];exact h
 have:=kU A.hy.uq hl
 have e:(gR l a).getD i ⟨#[]⟩=al (l.getD (on l a)[i] dD):=by
  have:=BO (fun h=>al (l.getD h dD)) (on l a) i h;rw[<-nj]at this;exact this
 have e2:(iJ l (aq l a)).getD i ⟨#[]⟩=al (l.getD (on l a)[i] dD):=e;rw[e2]at this;rw[F.vars];exact this
theorem xP(n:dM){l:List St}{a:Nat}{f:Fm}(A:A9 l a)(F:AZ l a f):iL n f f.vars.length []=true ↔ rX (mf n) (DK n) l a:=by
 have hlen:f.vars.length=(on l a).length:=by rw[F.vars,nj,List.length_map]
 have gne:f.goal≠[]:=by rw[F.goal];exact A.ne
 have ene:∀e∈f.ess,e≠[]:=fun e he=>by
  rw[F.ess]at he;obtain⟨h,hh,rfl⟩:=List.mem_map.1 he;exact A.hy.ess h (List.mem_filter.1 hh).1
 rw[BU]
 constructor
 ·intro H V v1 v2 _
  have hv:∀x,Dy l a x->V x=se n f.vars (f.vars.map (fun v=>(V v).val)) x:=fun x hx=>by
   cases c:aL f.vars x with
   | none=>rw[Bv n _ c];exact v1 x hx (by rw[<-F.vars];exact c)
   | some i =>
    have hi:=iD c;have e:=List.find?_some c;have e:=bV (eq_of_beq e)
    apply Fin.ext
    show(V x).val=jW n f.vars (f.vars.map (fun v=>(V v).val)) x % _
    unfold jW;rw[c]
    show(V x).val=((f.vars.map (fun v=>(V v).val)).getD i 0) % _
    rw[List.getD_eq_getElem?_getD,List.getElem?_map,List.getElem?_eq_getElem hi];rw[List.getD_eq_getElem?_getD,List.getElem?_eq_getElem hi]at e
    show(V x).val=(V f.vars[i]).val % _
    rw[show f.vars[i]=x from e,Nat.mod_eq_of_lt (Fin.isLt _)]
  have:=H (f.vars.map (fun v=>(V v).val)) (by rw[List.length_map]) (fun i hi=>by
   rw[List.length_map,hlen]at hi;obtain⟨q1,q2,q3,q4⟩:=xV A F hi;have hl:=iD q2;have e:=List.find?_some q2;have e:=bV (eq_of_beq e);rw[List.getD_eq_getElem?_getD,List.getElem?_eq_getElem hl]at e;rw[List.getElem_map,show f.vars[i]=_ from e,List.length_nil,Nat.zero_add,q1];refine⟨Nat.le_of_lt_succ (Fin.isLt _),?_⟩;have:=v2 _ q4;rw[q3]at this;have this:(mf n).ok (aR (l.getD (on l a)[i] dD)) ((mf n).mul (V (al (l.getD (on l a)[i] dD))) (mf n).one):=this;rw[(mf n).oneR]at this;exact this)
  rw[List.nil_append]at this;unfold si at this
  rw[if_pos (List.all_eq_true.2 (fun e he=>by
   have hne:=ene e he;rw[<-mr n _ _ hne];rw[F.ess]at he;obtain⟨h,hh,rfl⟩:=List.mem_map.1 he;have hh:=(List.mem_filter.1 hh).1;exact(oq _ (fun x hx=>hv x (Or.inr ⟨h,hh,hx⟩))).1 (v2 h hh)))]at this
  rw[<-mr n _ _ gne,F.goal]at this;exact(oq _ (fun x hx=>hv x (Or.inl hx))).2 this
 ·intro H vals hvl hva
  rw[List.nil_append];unfold si
  split
  ·next hess =>
   rw[<-mr n _ _ gne,F.goal];refine H _ (fun x hx hp=>Bv n _ (by rw[F.vars];exact hp)) (fun h hh=>?_) (fun _ _ _ _ _=>trivial)
   cases k:((l.getD h dD).kind==3) with
   | true =>
    have he:(l.getD h dD).symbols∈f.ess:=by rw[F.ess];exact List.mem_map.2 ⟨h,List.mem_filter.2 ⟨hh,k⟩,rfl⟩
    exact(mr n _ _ (ene _ he)).2 (List.all_eq_true.1 hess _ he)
   | false =>
    have hm:h∈on l a:=List.mem_filter.2 ⟨hh,by rw[k];rfl⟩;obtain⟨i,hi,rfl⟩:=List.getElem_of_mem hm;obtain⟨q1,q2,q3,-⟩:=xV A F hi;rw[q3]
    show(mf n).ok _ ((mf n).mul (se n f.vars vals _) (mf n).one)
    rw[(mf n).oneR];have hiv:i<vals.length:=by omega
    have:=hva i hiv;rw[List.length_nil,Nat.zero_add,q1]at this
    show bL n _ (jW n f.vars vals _ % _)=true
    unfold jW;rw[q2]
    show bL n _ (vals.getD i 0 % _)=true
    have e:vals.getD i 0=vals[i]:=by rw[List.getD_eq_getElem?_getD,List.getElem?_eq_getElem hiv];rfl
    rw[e,Nat.mod_eq_of_lt (by omega)];exact this.2
  ·rfl
def GD(n:dM)(t:ByteArray):Fin (n.mod+1):=match (List.range (n.mod+1)).find? (bL n t) with
 | some r=>⟨r % (n.mod+1),Nat.mod_lt _ (Nat.succ_pos _)⟩
 | none=>⟨0,Nat.succ_pos _⟩
theorem Fe(n:dM)(hp:ik n=true)(t:ByteArray):bL n t (GD n t).val=true:=by
 have hs:kH n t=true:=by
  cases c:aL n.codes t with
  | none =>
   unfold kH;rw[List.any_eq_true];exact⟨0,List.mem_range.2 (Nat.succ_pos _),by unfold bL;rw[c]⟩
  | some i =>
   have hi:=iD c;have e:=List.find?_some c;have e:=bV (eq_of_beq e);rw[List.getD_eq_getElem?_getD,List.getElem?_eq_getElem hi]at e;have:=List.all_eq_true.1 hp _ (List.getElem_mem hi);rwa [show n.codes[i]=t from e]at this
 unfold GD
 cases c:(List.range (n.mod+1)).find? (bL n t) with
 | none =>
  unfold kH at hs;obtain⟨r,h1,h2⟩:=List.any_eq_true.1 hs;exact absurd h2 (List.find?_eq_none.1 c r h1)
 | some r =>
  have h1:=List.mem_range.1 (List.mem_of_find?_eq_some c)
  show bL n t (r % _)=true
  rw[Nat.mod_eq_of_lt h1];exact List.find?_some c
theorem yS{d:Db}{P:ByteArray->Prop}(N:Nm P d)(V:Vr d)(n:dM)(hp:ik n=true)(k:Nat)(h5:(bq d.sts k).verdict=5)
  (hax:∀m,RP d.sts (aK d.sts d.sts.length) k m->(bq d.sts m).verdict=1->∃f,AZ d.sts m f/\dW d.sts m=true/\iL n f f.vars.length []=true)
  {f:Fm} (F:AZ d.sts k f) (ha:dW d.sts k=true):iL n f f.vars.length []=true :=
 (xP n (qT N V ha) F).2 (vb N V (mf n) (DK n) (GD n) (fun _ _ h=>h) (fun _ _=>trivial) (fun _ _=>trivial) (Fe n hp) k h5 (fun m hr h1=>by
  obtain⟨f',F',ha',h'⟩:=hax m hr h1;exact(xP n (qT N V ha') F').1 h'))
def zr(L:ByteArray->Bool)(R:ByteArray->ByteArray->Bool):qu (List ByteArray) where
 one:=[]
 mul a b:=a++b
 ok t d:=L t=true->d.Pairwise (fun x y=>R x y=true)
 ap a b:=∀x∈a,∀y∈b,R x y=true
 oneL a:=List.nil_append a
 oneR a:=List.append_nil a
 assoc a b c:=List.append_assoc a b c
 apOL _:=fun x hx=>by cases hx
 apOR _:=fun _ _ y hy=>by cases hy
 apL a b c h1 h2:=fun x hx y hy=>(List.mem_append.1 hx).elim (fun h=>h1 x h y hy) (fun h=>h2 x h y hy)
 apR a b c h1 h2:=fun x hx y hy=>(List.mem_append.1 hy).elim (fun h=>h1 x hx y h) (fun h=>h2 x hx y h)
theorem FH(L:ByteArray->Bool)(R:ByteArray->ByteArray->Bool)(V:ByteArray->List ByteArray)(e:List ByteArray):qx (zr L R) V e=e.flatMap V:=by
 induction e with
 | nil=>rfl
 | cons x r ih=>rw[List.flatMap_cons,<-ih];rfl
theorem m8(L:ByteArray->Bool)(R:ByteArray->ByteArray->Bool)(V:ByteArray->List ByteArray){e:List ByteArray}(he:e≠[]):vt (zr L R) V e ↔ (L (gD e 0)=true->((e.drop 1).flatMap V).Pairwise (fun x y=>R x y=true)):=by
 obtain⟨t,r,rfl⟩:=List.exists_cons_of_ne_nil he
 show(L t=true->(qx (zr L R) V r).Pairwise _) ↔ _
 rw[FH];exact Iff.rfl
theorem kT(f:Fm)(x y:ByteArray):eG f x y=eG f y x:=by
 unfold eG
 congr 1
 funext i
 exact Bool.or_comm _ _
theorem kN{a b:ByteArray}:(a.toList==b.toList)=true ↔ a=b:=⟨fun h=>bV (eq_of_beq h),fun h=>by rw[h];exact beq_self_eq_true _⟩
theorem zc{α β:Type}{f g:α->Option β}{L:List α}(h:∀x∈L,f x=g x):L.filterMap f=L.filterMap g:=by
 induction L with
 | nil=>rfl
 | cons x r ih=>rw[List.filterMap_cons,List.filterMap_cons,h x (by simp),ih (fun y hy=>h y (by simp[hy]))]
theorem rD{l:List St}{a:Nat}(A:A9 l a){p:Pr}:p∈br l a ↔ ∃i j,i<j/\j<(gR l a).length/\bW (gR l a).length (ce l a (gR l a)) i j=true/\p=(gD (gR l a) i,gD (gR l a) j):=by
 have e:dS l (aq l a)=gR l a:=by
  unfold dS gR iJ;refine zc ?_;intro h hh;unfold jb
  cases hs:l[h]? with
  | none =>
   exfalso
   have:=A.hy.ess h hh;rw[List.getD_eq_getElem?_getD,hs]at this;exact this rfl
  | some s =>
   have eg:l.getD h dD=s:=by rw[List.getD_eq_getElem?_getD,hs];rfl
   simp only;rw[eg]
   by_cases k:s.kind=3
   ·rw[k];rfl
   ·obtain⟨u,hu,-,hk⟩:=gW.1 hh
    rw[hs]at hu;have:=Option.some.inj hu;subst this
    rcases hk with ⟨k2,-⟩ | k3
    ·rw[k2];rfl
    ·exact absurd k3 k
 unfold br sQ lQ ij;rw[e];simp only[List.mem_flatMap,List.mem_range,List.mem_map,List.mem_filter,Bool.and_eq_true,decide_eq_true_eq]
 constructor
 ·rintro ⟨i,hi,j,⟨hj,hij,ha⟩,rfl⟩
  exact⟨i,j,hij,hj,ha,rfl⟩
 ·rintro ⟨i,j,hij,hj,ha,rfl⟩
  exact⟨i,by omega,j,⟨hj,hij,ha⟩,rfl⟩
theorem uC{l:List St}{a:Nat}{f:Fm}(F:AZ l a f)(x y:ByteArray):eG f x y=true ↔ (x,y)∈br l a∨(y,x)∈br l a:=by
 unfold eG;rw[List.any_eq_true,F.left,F.right]
 have key:∀u v,(∃i,i<(br l a).length/\gD ((br l a).map (·.1)) i=u/\gD ((br l a).map (·.2)) i=v) ↔ (u,v)∈br l a:=by
  intro u v
  constructor
  ·rintro ⟨i,hi,e1,e2⟩
   have:=List.getElem_mem hi;unfold gD at e1 e2;rw[List.getD_eq_getElem?_getD,List.getElem?_map,List.getElem?_eq_getElem hi]at e1 e2;have e1:(br l a)[i].1=u:=e1;have e2:(br l a)[i].2=v:=e2;rwa [<-e1,<-e2]
  ·intro h
   obtain⟨i,hi,e⟩:=List.getElem_of_mem h;refine⟨i,hi,?_,?_⟩
   ·unfold gD;rw[List.getD_eq_getElem?_getD,List.getElem?_map,List.getElem?_eq_getElem hi];show(br l a)[i].1=u;rw[e]
   ·unfold gD;rw[List.getD_eq_getElem?_getD,List.getElem?_map,List.getElem?_eq_getElem hi];show(br l a)[i].2=v;rw[e]
 rw[<-key x y,<-key y x]
 constructor
 ·rintro ⟨i,hi,h⟩
  rw[List.mem_range,List.length_map]at hi;simp only[Bool.or_eq_true,Bool.and_eq_true,kN]at h
  rcases h with h | h
  ·exact Or.inl ⟨i,hi,h⟩
  ·exact Or.inr ⟨i,hi,h⟩
 ·rintro (⟨i,hi,h⟩ | ⟨i,hi,h⟩)
  ·exact⟨i,List.mem_range.2 (by rw[List.length_map];exact hi),by simp only[Bool.or_eq_true,Bool.and_eq_true,kN];exact Or.inl h⟩
  ·exact⟨i,List.mem_range.2 (by rw[List.length_map];exact hi),by simp only[Bool.or_eq_true,Bool.and_eq_true,kN];exact Or.inr h⟩
theorem yc{f:Fm}{x:ByteArray}:BZ f x=true ↔ x∈f.vars:=by
 unfold BZ
 cases c:aL f.vars x with
 | none=>rw[b9]at c;simp[c]
 | some i=>simp only[Option.isSome_some,true_iff];exact Classical.byContradiction (fun h=>by rw[b9.2 h]at c;cases c)
theorem mq{e:List ByteArray}{i:Nat}(h:i<e.length):gD e i=e[i]:=by
 unfold gD;rw[List.getD_eq_getElem?_getD,List.getElem?_eq_getElem h];rfl
def lq(f:Fm)(x:ByteArray):List ByteArray:=if BZ f x=true then [x] else []
theorem Cf(f:Fm){e:List ByteArray}:di f e=true ↔ ((e.drop 1).flatMap (lq f)).Pairwise (fun x y=>eG f x y=true):=by
 rw[List.pairwise_flatMap];have h1:∀x∈e.drop 1,(lq f x).Pairwise (fun x y=>eG f x y=true):=fun x _=>by unfold lq;split <;> simp
 have h2:di f e=true ↔ (e.drop 1).Pairwise (fun a1 a2=>∀x∈lq f a1,∀y∈lq f a2,eG f x y=true):=by
  rw[List.pairwise_iff_getElem];unfold di;rw[List.all_eq_true]
  constructor
  ·intro h i j hi hj hij x hx y hy
   rw[List.length_drop]at hi hj;have q:=List.all_eq_true.1 (h (j+1) (List.mem_range.2 (by omega))) (i+1) (List.mem_range.2 (by omega));rw[mq (by omega),mq (by omega)]at q;have e1:(e.drop 1)[i]'(by rw[List.length_drop];exact hi)=e[i+1]'(by omega):=by rw[List.getElem_drop];congr 1;omega
   have e2:(e.drop 1)[j]'(by rw[List.length_drop];exact hj)=e[j+1]'(by omega):=by rw[List.getElem_drop];congr 1;omega
   rw[e1]at hx;rw[e2]at hy;unfold lq at hx hy
   split at hx
   ·next c1 =>
    split at hy
    ·next c2 =>
     rw[List.mem_singleton.1 hx,List.mem_singleton.1 hy];unfold Cd at q;rw[c1,c2]at q;rw[kT];simpa using q
    ·cases hy
   ·cases hx
  ·intro h i hi
   rw[List.mem_range]at hi;rw[List.all_eq_true];intro j hj;rw[List.mem_range]at hj
   by_cases z:j=0
   ·simp[z]
   ·have q:=h (j-1) (i-1) (by rw[List.length_drop];omega) (by rw[List.length_drop];omega) (by omega)
    have e1:(e.drop 1)[j-1]'(by rw[List.length_drop];omega)=e[j]'(by omega):=by rw[List.getElem_drop];congr 1;omega
    have e2:(e.drop 1)[i-1]'(by rw[List.length_drop];omega)=e[i]'(by omega):=by rw[List.getElem_drop];congr 1;omega
    rw[e1,e2]at q;rw[mq (by omega),mq (by omega)];unfold Cd
    cases c1:BZ f e[i] with
    | false=>simp
    | true =>
     cases c2:BZ f e[j] with
     | false=>simp
     | true =>
      have:=q e[j] (by unfold lq;rw[if_pos c2];simp) e[i] (by unfold lq;rw[if_pos c1];simp);rw[kT]at this;simp[this]
 rw[h2];exact⟨fun h=>⟨h1,h⟩,fun h=>h.2⟩
section
variable {l:List St} {a:Nat} {f:Fm}
theorem zk(A:A9 l a)(F:AZ l a f){h:Nat}(hh:h∈aq l a):((l.getD h dD).symbols∈f.ess/\(l.getD h dD).symbols≠[])∨∃i,i<(on l a).length/\(l.getD h dD).symbols=[gD f.types i,gD f.vars i]:=by
 cases k:((l.getD h dD).kind==3) with
 | true=>exact Or.inl ⟨by rw[F.ess];exact List.mem_map.2 ⟨h,List.mem_filter.2 ⟨hh,k⟩,rfl⟩,A.hy.ess h hh⟩
 | false =>
  have hm:h∈on l a:=List.mem_filter.2 ⟨hh,by rw[k];rfl⟩;obtain⟨i,hi,rfl⟩:=List.getElem_of_mem hm;obtain⟨q1,q2,q3,-⟩:=xV A F hi;refine Or.inr ⟨i,hi,?_⟩;have hl:=iD q2;have e:=List.find?_some q2;have e:=bV (eq_of_beq e);rw[q3,q1];have e:gD f.vars i=al (l.getD (on l a)[i] dD):=e;rw[e]
theorem Fo(n:dM)(A:A9 l a)(F:AZ l a f)(hv:rX (zr (lp n) (eG f)) (fun _=>[]) l a):gg n f=true:=by
 have gne:f.goal≠[]:=by rw[F.goal];exact A.ne
 unfold gg
 split
 ·next hess =>
  have:=hv (lq f) (fun x _ hp=>by
   unfold lq;rw[if_neg];rw[yc,F.vars];exact b9.1 hp) (fun h hh=>by
   rcases zk A F hh with ⟨g1,g2⟩ | ⟨i,-,e⟩
   ·rw[m8 _ _ _ g2,<-Cf]
    intro ht;have:=List.all_eq_true.1 hess _ g1;rw[ht]at this;simpa using this
   ·rw[e,m8 _ _ _ (by simp)]
    intro _
    show(lq f (gD f.vars i)++[]).Pairwise _
    rw[List.append_nil]
    unfold lq;split <;> simp) (fun i j hij hj ha x hx y hy=>by
   have e1:∀q,x∈lq f q->x=q:=fun q h=>by
    unfold lq at h
    split at h
    ·exact List.mem_singleton.1 h
    ·cases h
   have e2:∀q,y∈lq f q->y=q:=fun q h=>by
    unfold lq at h
    split at h
    ·exact List.mem_singleton.1 h
    ·cases h
   rw[uC F];exact Or.inl ((rD A).2 ⟨i,j,hij,hj,ha,by rw[e1 _ hx,e2 _ hy];rfl⟩))
  rw[<-F.goal,m8 _ _ _ gne,<-Cf]at this
  cases c:lp n (gD f.goal 0) with
  | false=>rfl
  | true=>rw[this c];rfl
 ·rfl
theorem rh{V:ByteArray->List ByteArray}{R:ByteArray->ByteArray->Prop}{e:List ByteArray}(h:(e.flatMap V).Pairwise R):(∀x∈e,(V x).Pairwise R)/\∀i j (hi:i<e.length) (hj:j<e.length),i<j->∀x∈V e[i],∀y∈V e[j],R x y:=by
 rw[List.pairwise_flatMap,List.pairwise_iff_getElem]at h;exact⟨h.1,fun i j hi hj hij=>h.2 i j hi hj hij⟩
theorem Ce(n:dM)(A:A9 l a)(F:AZ l a f)(R:ByteArray->ByteArray->Bool)(hR:∀x y,R x y=R y x)(hk:fO n f=true):rX (zr (lp n) R) (fun _=>[]) l a:=by
 have gne:f.goal≠[]:=by rw[F.goal];exact A.ne
 intro V v1 v2 v3;rw[<-F.goal,m8 _ _ _ gne];intro ht;unfold fO at hk;rw[ht]at hk;simp only[Bool.not_true,Bool.false_or]at hk;have hk:=List.all_eq_true.1 hk
 have ess:∀e∈f.ess,lp n (gD e 0)=true->((e.drop 1).flatMap V).Pairwise (fun x y=>R x y=true):=fun e he hl=>by
  rw[F.ess]at he;obtain⟨h,hh,rfl⟩:=List.mem_map.1 he;have hh:=(List.mem_filter.1 hh).1;exact(m8 _ _ _ (A.hy.ess h hh)).1 (v2 h hh) hl
 have prs:∀x y,eG f x y=true->∀u∈V x,∀w∈V y,R u w=true:=fun x y h=>by
  have one:∀x y,(x,y)∈br l a->∀u∈V x,∀w∈V y,R u w=true:=fun x y h=>by
   obtain⟨i,j,hij,hj,ha,e⟩:=(rD A).1 h;have:=v3 i j hij hj ha;simp only[Prod.mk.injEq]at e;rw[e.1,e.2];exact this
  rcases(uC F x y).1 h with h | h
  ·exact one x y h
  ·intro u hu w hw;rw[hR];exact one y x h w hw u hu
 have two:∀e∈f.ess,lp n (gD e 0)=true->∀x y,ig e x y=true->(∀u∈V x,∀w∈V y,R u w=true)/\x∈e.drop 1:=fun e he hl x y h=>by
  obtain⟨-,p2⟩:=rh (ess e he hl);unfold ig at h;obtain⟨i,hi,h⟩:=List.any_eq_true.1 h;obtain⟨j,hj,h⟩:=List.any_eq_true.1 h;rw[List.mem_range]at hi hj;simp only[Bool.and_eq_true,Bool.not_eq_true',beq_eq_false_iff_ne,kN]at h;obtain⟨⟨⟨⟨z1,z2⟩,z3⟩,z4⟩,z5⟩:=h;rw[mq hi]at z4;rw[mq hj]at z5;have d1:(e.drop 1)[i-1]'(by rw[List.length_drop];omega)=e[i]:=by rw[List.getElem_drop];congr 1;omega
  have d2:(e.drop 1)[j-1]'(by rw[List.length_drop];omega)=e[j]:=by rw[List.getElem_drop];congr 1;omega
  refine⟨?_,?_⟩
  ·intro u hu w hw
   rw[<-z4,<-d1]at hu;rw[<-z5,<-d2]at hw
   rcases Nat.lt_or_gt_of_ne z3 with c | c
   ·exact p2 (i-1) (j-1) _ _ (by omega) u hu w hw
   ·rw[hR];exact p2 (j-1) (i-1) _ _ (by omega) w hw u hu
  ·rw[<-z4,<-d1];exact List.getElem_mem _
 have sub:∀x∈f.goal.drop 1,x∈f.goal:=fun x hx=>List.mem_of_mem_drop hx
 have out:∀x∈f.goal,x∉f.vars->V x=[]:=fun x hx hn=>v1 x (Or.inl (by rw[<-F.goal];exact hx)) (b9.2 (by rw[<-F.vars];exact hn))
 have at_:∀i (hi:i<f.goal.length),0<i->f.goal[i]∈f.vars->(V f.goal[i]).Pairwise (fun x y=>R x y=true)/\∀j (hj:j<i),0<j->f.goal[j]∈f.vars->∀u∈V f.goal[i],∀w∈V f.goal[j],R u w=true:=fun i hi h0 hm=>by
  have q:=hk i (List.mem_range.2 hi);have hz:decide (i=0)=false:=by simp;omega
  rw[hz,Bool.false_or]at q;unfold pa at q;rw[mq hi]at q
  cases c:aL f.vars f.goal[i] with
  | none=>exact absurd hm (b9.1 c)
  | some x =>
   rw[c]at q;simp only[Bool.and_eq_true,Bool.or_eq_true]at q;have hx:=iD c;have e:=List.find?_some c;have e:gD f.vars x=f.goal[i]:=bV (eq_of_beq e);refine⟨?_,fun j hj hj0 hmj=>?_⟩
   ·rcases q.1 with ql | qg
    ·have hx2:x<(on l a).length:=by rw[F.vars,nj,List.length_map]at hx;exact hx
     obtain⟨q1,q2,q3,q4⟩:=xV A F hx2;have:=v2 _ q4;rw[q3,m8 _ _ _ (by simp)]at this;have:=this (by rw[<-q1]at *;exact ql)
     have e2:al (l.getD (on l a)[x] dD)=f.goal[i]:=by
      have e3:=List.find?_some q2;have e3:gD f.vars x=al (l.getD (on l a)[x] dD):=bV (eq_of_beq e3);rw[<-e3,e]
     rw[e2]at this;have this:(V f.goal[i]++[]).Pairwise _:=this;rwa [List.append_nil]at this
    ·unfold eN at qg
     obtain⟨s,hs,hg⟩:=List.any_eq_true.1 qg;unfold fI at hg;simp only[Bool.and_eq_true,Bool.or_eq_true]at hg
     have mem:f.goal[i]∈s.drop 1:=by
      rcases hg.2 with t | ⟨-,t⟩
      ·exact(two s hs hg.1 _ _ t).2
      ·exact Classical.byContradiction (fun h=>by rw[b9.2 h]at t;cases t)
     exact(rh (ess s hs hg.1)).1 _ mem
   ·have r:=List.all_eq_true.1 q.2 j (List.mem_range.2 hj)
    unfold ef at r;have hz:decide (j=0)=false:=by simp;omega
    rw[hz,Bool.false_or,mq (by omega),mq hi,yc.2 hmj]at r;simp only[Bool.true_and,Bool.not_and,Bool.not_not,Bool.or_eq_true]at r
    rcases r with r | r
    ·exact prs _ _ r
    ·unfold eN at r
     obtain⟨s,hs,hg⟩:=List.any_eq_true.1 r;unfold fI at hg;simp only[Bool.not_true,Bool.false_and,Bool.or_false,Bool.and_eq_true]at hg;exact(two s hs hg.1 _ _ hg.2).1
 rw[List.pairwise_flatMap];refine⟨fun x hx=>?_,?_⟩
 ·by_cases c:x∈f.vars
  ·obtain⟨i,hi,rfl⟩:=List.getElem_of_mem hx
   rw[List.length_drop]at hi;have e:(f.goal.drop 1)[i]=f.goal[i+1]'(by omega):=by rw[List.getElem_drop];congr 1;omega
   rw[e]at c ⊢;exact(at_ (i+1) (by omega) (by omega) c).1
  ·rw[out x (sub x hx) c];exact List.Pairwise.nil
 ·rw[List.pairwise_iff_getElem]
  intro i j hi hj hij x hx y hy;rw[List.length_drop]at hi hj;have e1:(f.goal.drop 1)[i]'(by rw[List.length_drop];exact hi)=f.goal[i+1]'(by omega):=by rw[List.getElem_drop];congr 1;omega
  have e2:(f.goal.drop 1)[j]'(by rw[List.length_drop];exact hj)=f.goal[j+1]'(by omega):=by rw[List.getElem_drop];congr 1;omega
  rw[e1]at hx;rw[e2]at hy
  by_cases c1:f.goal[i+1]∈f.vars
  ·by_cases c2:f.goal[j+1]∈f.vars
   ·rw[hR];exact(at_ (j+1) (by omega) (by omega) c2).2 (i+1) (by omega) (by omega) c1 y hy x hx
   ·rw[out _ (List.getElem_mem _) c2]at hy;cases hy
  ·rw[out _ (List.getElem_mem _) c1]at hx;cases hx
end
theorem zs{d:Db}{P:ByteArray->Prop}(N:Nm P d)(V:Vr d)(n:dM)(k:Nat)(h5:(bq d.sts k).verdict=5)
  (hax:∀m,RP d.sts (aK d.sts d.sts.length) k m->(bq d.sts m).verdict=1->∃f,AZ d.sts m f/\dW d.sts m=true/\fO n f=true)
  {f:Fm} (F:AZ d.sts k f) (ha:dW d.sts k=true):gg n f=true :=
 Fo n (qT N V ha) F (vb N V (zr (lp n) (eG f)) (fun _=>[]) (fun _=>[]) (fun a b h x hx y hy=>by rw[kT];exact h y hy x hx) (fun _ _ x hx=>by cases hx) (fun _ _ x hx=>by cases hx) (fun _ _=>List.Pairwise.nil) k h5 (fun m hr h1=>by
  obtain⟨f',F',ha',h'⟩:=hax m hr h1;exact Ce n (qT N V ha') F' _ (kT f) h'))
theorem Ar{s:St}(h:xL s)(hk:s.kind=2∨s.kind=3)(f:Fm) :
  (bG f (aN (dK s))).vars=f.vars++(if(s.kind==3)=true then [] else [al s])/\(bG f (aN (dK s))).types=f.types++(if(s.kind==3)=true then [] else [aR s])/\(bG f (aN (dK s))).ess=f.ess++(if(s.kind==3)=true then [s.symbols] else [])/\(bG f (aN (dK s))).left=f.left/\(bG f (aN (dK s))).right=f.right:=by
 rw[h.split];have hd:=ng s.label (eO s.kind :: s.symbols) h.lab
 rcases hk with hk | hk
 ·have h2:=h.two hk
  have k1:gd (s.label :: eO s.kind :: s.symbols) 102=true:=by rw[ia,hk,wo,tu];rfl
  have n3:(s.kind==3)=false:=by rw[hk];rfl
  unfold bG;rw[if_neg (by rw[hd];simp),if_pos ⟨k1,by simp[h2]⟩,n3];have v:al s=s.symbols.getD 1 ⟨#[]⟩:=by unfold al;rw[if_pos ⟨by rw[hk];rfl,by omega⟩]
  rw[v];simp only[Bool.false_eq_true,if_false,List.append_nil];exact⟨rfl,rfl,trivial,trivial,trivial⟩
 ·have k1:gd (s.label :: eO s.kind :: s.symbols) 102=false:=by rw[ia,hk,pg,tu];decide
  have k2:gd (s.label :: eO s.kind :: s.symbols) 101=true:=by rw[ia,hk,pg,tu];rfl
  have n3:(s.kind==3)=true:=by rw[hk];rfl
  unfold bG;rw[if_neg (by rw[hd];simp),if_neg (by rw[k1];simp),if_pos k2,n3];simp only[if_true,List.append_nil];exact⟨trivial,trivial,rfl,trivial,trivial⟩
theorem xk(p:Pr)(h1:hZ p.1)(h2:hZ p.2)(f:Fm):bG f (aN (cJ p))={ f with left:=f.left++[p.1],right:=f.right++[p.2] }:=by
 rw[lO p h1 h2];unfold bG;rw[if_pos (o8 _)];rfl
theorem As{s:St}(h:xL s)(hk:jt s.kind=true)(f:Fm):bG f (aN (dK s))={ f with goal:=s.symbols }:=by
 rw[h.split];have hd:=ng s.label (eO s.kind :: s.symbols) h.lab;have hk':s.kind=4∨s.kind=5:=by unfold jt at hk;simpa using hk
 have k1:gd (s.label :: eO s.kind :: s.symbols) 102=false:=by
  rw[ia]
  rcases hk' with e | e <;> rw[e]
  ·rw[ph,tu];decide
  ·rw[pk,tu];decide
 have k2:gd (s.label :: eO s.kind :: s.symbols) 101=false:=by
  rw[ia]
  rcases hk' with e | e <;> rw[e]
  ·rw[ph,tu];decide
  ·rw[pk,tu];decide
 unfold bG;rw[if_neg (by rw[hd];simp),if_neg (by rw[k1];simp),if_neg (by rw[k2];simp)];rfl
theorem vU(l:List St)(hs:List Nat)(h:∀n∈hs,∃h:n<l.length,xL l[n]/\(l[n].kind=2∨l[n].kind=3)):∀(f:Fm) (g:Fm),g=((hs.map (dY l)).foldl (fun f x=>bG f (aN x)) f) ->
  g.vars=f.vars++(hs.filter (fun h=>!((l.getD h dD).kind==3))).map (fun h=>al (l.getD h dD))/\g.types=f.types++(hs.filter (fun h=>!((l.getD h dD).kind==3))).map (fun h=>aR (l.getD h dD))/\g.ess=f.ess++(hs.filter (fun h=>(l.getD h dD).kind==3)).map (fun h=>(l.getD h dD).symbols)/\g.left=f.left/\g.right=f.right:=by
 induction hs with
 | nil=>rintro f g rfl;simp
 | cons n hs ih =>
  rintro f g rfl;obtain⟨hn,hst,hk⟩:=h n (by simp);have e1:dY l n=dK l[n]:=by unfold dY;rw[List.getElem?_eq_getElem hn]
  have e2:l.getD n dD=l[n]:=by rw[List.getD_eq_getElem?_getD,List.getElem?_eq_getElem hn];rfl
  simp only[List.map_cons,List.foldl_cons];obtain⟨i1,i2,i3,i4,i5⟩:=ih (fun n hn=>h n (List.mem_cons_of_mem _ hn)) (bG f (aN (dY l n))) _ rfl;obtain⟨j1,j2,j3,j4,j5⟩:=Ar hst hk f;rw[i1,i2,i3,i4,i5,e1,j1,j2,j3,j4,j5];simp only[List.filter_cons,e2]
  cases c:(l[n].kind==3) with
  | true=>simp[hn]
  | false=>simp[hn]
theorem ub(ps:List Pr)(h:∀p∈ps,hZ p.1/\hZ p.2):∀f:Fm,(ps.map cJ).foldl (fun f x=>bG f (aN x)) f={ f with left:=f.left++ps.map (·.1),right:=f.right++ps.map (·.2) }:=by
 induction ps with
 | nil=>intro f;simp
 | cons p ps ih =>
  intro f;have hp:=h p (by simp);simp only[List.map_cons,List.foldl_cons];rw[xk p hp.1 hp.2,ih (fun q hq=>h q (List.mem_cons_of_mem _ hq))];simp
theorem xW{l:List St}{a:Nat}(h:nZ l a):AZ l a (cP (aM l a)):=by
 have e1:dY l a=dK (l[a]'h.ha):=by unfold dY;rw[List.getElem?_eq_getElem h.ha]
 have e2:l.getD a dD=l[a]'h.ha:=by rw[List.getD_eq_getElem?_getD,List.getElem?_eq_getElem h.ha];rfl
 obtain⟨i1,i2,i3,i4,i5⟩:=vU l (aq l a) h.hyp ua _ rfl
 have e:cP (aM l a)={ (((aq l a).map (dY l)).foldl (fun f x=>bG f (aN x)) ua) with left:=(((aq l a).map (dY l)).foldl (fun f x=>bG f (aN x)) ua).left++(br l a).map (·.1),right:=(((aq l a).map (dY l)).foldl (fun f x=>bG f (aN x)) ua).right++(br l a).map (·.2),goal:=(l[a]'h.ha).symbols }:=by
  unfold cP fy;rw[List.take_length];unfold aM;rw[List.foldl_append,List.foldl_append];simp only[List.foldl_cons,List.foldl_nil,e1];rw[ub _ (fun p hp=>(h.prs p hp).1),As h.own h.isa]
 rw[e];refine⟨?_,?_,?_,?_,?_,by rw[e2]⟩
 ·show(((aq l a).map (dY l)).foldl (fun f x=>bG f (aN x)) ua).vars=_
  rw[i1,nj];rfl
 ·show(((aq l a).map (dY l)).foldl (fun f x=>bG f (aN x)) ua).types=_
  rw[i2];rfl
 ·show(((aq l a).map (dY l)).foldl (fun f x=>bG f (aN x)) ua).ess=_
  rw[i3];rfl
 ·show(((aq l a).map (dY l)).foldl (fun f x=>bG f (aN x)) ua).left++_=_
  rw[i4];rfl
 ·show(((aq l a).map (dY l)).foldl (fun f x=>bG f (aN x)) ua).right++_=_
  rw[i5];rfl
def E5(l:List St)(k:Nat):Nat:=((List.range k).filter (fun n=>!((bq l n).verdict==0))).length
theorem mN(l:List St):eY l=((List.range l.length).filter (fun n=>!((bq l n).verdict==0))).map (bq l):=by
 unfold eY;rw[yG,List.filter_map];rfl
theorem xT(p:Nat->Bool)(N:Nat):∀k,k<N->p k=true->((List.range N).filter p)[((List.range k).filter p).length]?=some k:=by
 intro k hk hp;obtain⟨m,rfl⟩:∃m,N=k+1+m:=⟨N-(k+1),by omega⟩
 rw[List.range_add,List.filter_append,List.range_succ,List.filter_append,List.append_assoc,List.getElem?_append_right (Nat.le_refl _),Nat.sub_self];simp[hp]
theorem xU(p:Nat->Bool)(N i k:Nat)(h:((List.range N).filter p)[i]?=some k):k<N/\p k=true/\i=((List.range k).filter p).length:=by
 have hm:=List.mem_filter.1 (List.mem_of_getElem? h);have hk:=List.mem_range.1 hm.1;refine⟨hk,hm.2,?_⟩;have h2:=xT p N k hk hm.2;have hnd:((List.range N).filter p).Nodup:=List.nodup_range.filter _;obtain⟨h3,h4⟩:=List.getElem?_eq_some_iff.1 h;obtain⟨h5,h6⟩:=List.getElem?_eq_some_iff.1 h2;exact(List.getElem_inj hnd).1 (h4.trans h6.symm)
theorem DT(p:Nat->Bool){m k:Nat}(h:m<k)(hp:p m=true):((List.range m).filter p).length<((List.range k).filter p).length:=by
 obtain⟨q,rfl⟩:∃q,k=m+1+q:=⟨k-(m+1),by omega⟩
 rw[List.range_add,List.filter_append,List.range_succ,List.filter_append,List.length_append,List.length_append];simp[hp];omega
theorem mC{l:List St}{k:Nat}(h:((bq l k).verdict==0)=false):∃s,l[k]?=some s/\jt s.kind=true/\(bq l k).label=s.label:=by
 unfold bq fD at h ⊢
 cases hs:l[k]? with
 | none=>rw[hs]at h;cases h
 | some s =>
  rw[hs]at h;simp only at h ⊢
  by_cases h4:s.kind=4
  ·have b4:(s.kind==4)=true:=by rw[h4];rfl
   exact⟨s,rfl,by unfold jt;rw[b4];rfl,by rw[b4];rfl⟩
  ·have b4:(s.kind==4)=false:=beq_eq_false_iff_ne.2 h4
   by_cases h5:s.kind=5
   ·have b5:(s.kind==5)=true:=by rw[h5];rfl
    refine⟨s,rfl,by unfold jt;rw[b5];simp,?_⟩;rw[b4,b5];simp only[Bool.false_eq_true,if_false,if_true];unfold bP gi
    repeat' split
    all_goals rfl
   ·have b5:(s.kind==5)=false:=beq_eq_false_iff_ne.2 h5
    rw[b4,b5]at h;cases h
theorem yh{l:List St}(hd:Bb l){j k:Nat}{s u:St}(h1:l[j]?=some s)(h2:l[k]?=some u)(a1:jt s.kind=true)(a2:jt u.kind=true)(e:s.label=u.label):j=k:=by
 have k1:s.kind≠1:=fun c=>by rw[c]at a1;cases a1
 have k2:u.kind≠1:=fun c=>by rw[c]at a2;cases a2
 rcases Nat.lt_trichotomy j k with c | c | c
 ·have:=hd j k s u c h1 h2 k1 k2;rw[e]at this;simp at this
 ·exact c
 ·have:=hd k j u s c h2 h1 k2 k1;rw[e]at this;simp at this
theorem tS{l:List St}(hd:Bb l){k:Nat}{s:St}(h:l[k]?=some s)(ha:jt s.kind=true):ey l s.label=some k:=by
 have hk:=(List.getElem?_eq_some_iff.1 h).1
 cases hf:ey l s.label with
 | none =>
  unfold ey at hf;have:=List.find?_eq_none.1 hf k (List.mem_range.2 hk);exact absurd (by unfold i9;rw[h];simp[ha]) this
 | some m =>
  unfold ey at hf;have hm:=List.find?_some hf;unfold i9 at hm
  cases ht:l[m]? with
  | none=>rw[ht]at hm;cases hm
  | some t =>
   rw[ht]at hm;simp only[Bool.and_eq_true]at hm;rw[yh hd ht h hm.2 ha (bV (eq_of_beq hm.1))]
def E6(R:List Rw)(lab:ByteArray)(i:Nat):Bool:=match R[i]? with | some r=>r.label.toList==lab.toList | none=>false
def sO(R:List Rw)(lab:ByteArray):Option Nat:=(List.range R.length).find? (E6 R lab)
theorem Ev{l:List St}(hd:Bb l){m:Nat}(hm:m<l.length)(hv:((bq l m).verdict==0)=false):sO (eY l) (eS l m)=some (E5 l m)/\(eY l)[E5 l m]?=some (bq l m):=by
 have hat:(eY l)[E5 l m]?=some (bq l m):=by
  rw[mN,List.getElem?_map];unfold E5;rw[xT _ _ m hm (by rw[hv];rfl)];rfl
 refine⟨?_,hat⟩;obtain⟨s,hs,ha,hl⟩:=mC hv;have hlab:eS l m=s.label:=by unfold eS;rw[List.getD_eq_getElem?_getD,hs];rfl
 have hlen:=(List.getElem?_eq_some_iff.1 hat).1
 have hyes:E6 (eY l) (eS l m) (E5 l m)=true:=by
  unfold E6;rw[hat];simp only;rw[hl,hlab];simp
 cases hp:sO (eY l) (eS l m) with
 | none =>
  unfold sO at hp;exact absurd hyes (List.find?_eq_none.1 hp _ (List.mem_range.2 hlen))
 | some j =>
  unfold sO at hp;have hj:=List.mem_range.1 (List.mem_of_find?_eq_some hp);have hq:=List.find?_some hp;unfold E6 at hq;rw[List.getElem?_eq_getElem hj]at hq;simp only at hq;have hj2:=List.getElem?_eq_getElem hj;generalize (eY l)[j]=rj at hq hj2;rw[mN,List.getElem?_map]at hj2
  cases hc:((List.range l.length).filter (fun n=>!((bq l n).verdict==0)))[j]? with
  | none=>rw[hc]at hj2;cases hj2
  | some k =>
   rw[hc]at hj2;obtain⟨k1,k2,k3⟩:=xU _ _ _ _ hc;have hrj:rj=bq l k:=(Option.some.inj hj2).symm;obtain⟨u,hu,hau,hlu⟩:=mC (l:=l) (k:=k) (by simpa using k2);rw[hrj]at hq;have:=bV (eq_of_beq hq);rw[hlu,hlab]at this;rw[yh hd hs hu ha hau this.symm,k3];rfl
structure FQ(T:ByteArray)(i k:Nat)(r:Rw):Prop where
 find:ey (bC T).2.sts r.label=some k
 fr:nZ (bC T).2.sts k
 own:((bC T).2.sts[k]'fr.ha).label.toList=r.label.toList
 at_:dW (bC T).2.sts k=true
 ver:(bq (bC T).2.sts k).verdict=r.verdict
 ix:i=E5 (bC T).2.sts k
theorem BN(T:ByteArray)(hT:iq T){k:Nat}{s:St}(h:(bC T).2.sts[k]?=some s)(ha:jt s.kind=true):nZ (bC T).2.sts k:=by
 obtain⟨hk,rfl⟩:=List.getElem?_eq_some_iff.1 h;exact nZ.of (yA T hT.size) (iW T hT.size hT.inc).ok k hk ha
theorem Fx(T:ByteArray)(hT:iq T){i:Nat}{r:Rw}(h:(bj T)[i]?=some r):∃k,FQ T i k r:=by
 have hd:=(pQ T).diff;unfold bj at h;rw[mN,List.getElem?_map]at h
 cases hc:((List.range (bC T).2.sts.length).filter (fun n=>!((bq (bC T).2.sts n).verdict==0)))[i]? with
 | none=>rw[hc]at h;cases h
 | some k =>
  rw[hc]at h;have h:=Option.some.inj h;obtain⟨k1,k2,k3⟩:=xU _ _ _ _ hc;obtain⟨s,hs,ha,hl⟩:=mC (l:=(bC T).2.sts) (k:=k) (by simpa using k2);have e:r.label=s.label:=by rw[<-h,hl]
  refine⟨k,by rw[e];exact tS hd hs ha,BN T hT hs ha,?_,by unfold dW;rw[hs];exact ha,by rw[<-h],k3⟩;obtain⟨q,hq⟩:=List.getElem?_eq_some_iff.1 hs;rw[e,hq]
def Bo(l:List St)(k:Nat):List Nat:=(List.range l.length).filter (E7 l (aK l l.length) k)
theorem wN{l:List St}{k:Nat}(h5:(bq l k).verdict=5){m:Nat}(h:RP l (aK l l.length) k m):(bq l m).verdict=5∨(bq l m).verdict=1∨(bq l m).verdict=0:=by
 refine h (fun m=>(bq l m).verdict=5∨(bq l m).verdict=1∨(bq l m).verdict=0) (Or.inl h5) ?_;intro t m ht hp hm
 have htl:t<l.length:=by
  unfold iM at hm
  cases hs:l[t]? with
  | none=>rw[hs]at hm;cases hm
  | some s=>exact(List.getElem?_eq_some_iff.1 hs).1
 unfold jT at hp;rw[kL l htl]at hp
 have ht5:(bq l t).verdict=5:=by
  rcases ht with e | e | e
  ·exact e
  ·rw[e]at hp;cases hp
  ·rw[e]at hp;cases hp
 obtain⟨s,hs⟩:∃s,l[t]?=some s:=⟨_,List.getElem?_eq_getElem htl⟩
 have h4:s.kind≠4:=fun e=>by
  have:=(mM hs).2.1;rw[ht5,e]at this;cases this
 obtain⟨-,hg,-,hr⟩:=vo hs h4 ht5;have hm2:=hm;unfold iM at hm;rw[hs]at hm;obtain⟨q,hq,e⟩:=List.mem_filterMap.1 hm;unfold jB at e
 split at e
 ·next c =>
  have e:=Option.some.inj e;have hb:=List.all_eq_true.1 hr q hq;rw[c,e,kL l (nk hm2)]at hb;have hb:tH (bq l m).verdict=false:=by simpa using hb
  have ml:m<l.length:=Nat.lt_trans (nk hm2) htl;obtain⟨u,hu⟩:∃u,l[m]?=some u:=⟨_,List.getElem?_eq_getElem ml⟩
  by_cases c4:u.kind=4
  ·right;left
   have:=(mM hu).2.1;rw[c4]at this;simpa using this
  ·by_cases c5:u.kind=5
   ·left
    have e:bq l m=bP l m u (aK l m):=by
     unfold bq fD;rw[hu];simp only;rw[if_neg (by rw[c5];decide),if_pos (by rw[c5];rfl)]
    rw[e]at hb ⊢
    rcases lL l m u (aK l m) with g | g | g | g
    ·rw[g]at hb;exact absurd hb (by decide)
    ·rw[g]at hb;exact absurd hb (by decide)
    ·rw[g]at hb;exact absurd hb (by decide)
    ·exact g
   ·right;right
    unfold bq fD;rw[hu];simp only;rw[if_neg (by simpa using c4),if_neg (by simpa using c5)];rfl
 ·cases e
theorem EI(T:ByteArray){i k:Nat}{r:Rw}(S:FQ T i k r)(h5:r.verdict=5):r6 (bC T).2.sts r.label=(((Bo (bC T).2.sts k).map (eS (bC T).2.sts),[]),0):=by
 have h5:(bq (bC T).2.sts k).verdict=5:=S.ver.trans h5;unfold r6;rw[S.find];simp only;rw[kL _ S.fr.ha,h5,if_neg (by decide)];unfold lB Bo
 have:(List.range (bC T).2.sts.length).filter (FP (bC T).2.sts (aK (bC T).2.sts (bC T).2.sts.length) k)=[]:=by
  rw[List.filter_eq_nil_iff];intro m hm hb;unfold FP at hb;rw[Bool.and_eq_true,kL _ (List.mem_range.1 hm)]at hb;have hr:=(sS S.fr.ha m).1 hb.1
  rcases wN h5 hr with e | e | e <;> (rw[e]at hb;exact absurd hb.2 (by decide))
 rw[this];rfl
theorem Gn(T:ByteArray)(hT:iq T){i k:Nat}{r:Rw}(S:FQ T i k r)(h5:r.verdict=5){m:Nat}(hm:m∈Bo (bC T).2.sts k) :
  RP (bC T).2.sts (aK (bC T).2.sts (bC T).2.sts.length) k m/\(bq (bC T).2.sts m).verdict=1/\∃j r',sO (bj T) (eS (bC T).2.sts m)=some j/\j<i/\(bj T)[j]?=some r'/\r'.verdict=1/\r'.label=eS (bC T).2.sts m/\FQ T j m r':=by
 have h5:(bq (bC T).2.sts k).verdict=5:=S.ver.trans h5;unfold Bo at hm;obtain⟨hl,hu⟩:=List.mem_filter.1 hm;have hl:=List.mem_range.1 hl;unfold E7 at hu;rw[Bool.and_eq_true,kL _ hl]at hu;have hv:(bq (bC T).2.sts m).verdict=1:=by simpa using hu.2
 have hr:=(sS S.fr.ha m).1 hu.1
 have hmk:m<k:=by
  have:=hr.le
  rcases Nat.lt_or_eq_of_le this with c | c
  ·exact c
  ·rw[c,h5]at hv;cases hv
 have hv0:((bq (bC T).2.sts m).verdict==0)=false:=by rw[hv];rfl
 obtain⟨p1,p2⟩:=Ev (pQ T).diff hl hv0;obtain⟨s,hs,ha,hlb⟩:=mC hv0;have hlab:eS (bC T).2.sts m=s.label:=by unfold eS;rw[List.getD_eq_getElem?_getD,hs];rfl
 have hat:(bj T)[E5 (bC T).2.sts m]?=some (bq (bC T).2.sts m):=p2;refine⟨hr,hv,E5 (bC T).2.sts m,bq (bC T).2.sts m,p1,?_,hat,hv,by rw[hlb,hlab],?_⟩
 ·rw[S.ix];exact DT _ hmk (by rw[hv0];rfl)
 ·refine⟨by rw[hlb];exact tS (pQ T).diff hs ha,BN T hT hs ha,?_,by unfold dW;rw[hs];exact ha,rfl,rfl⟩
  obtain⟨q,hq⟩:=List.getElem?_eq_some_iff.1 hs;rw[hlb,hq]
theorem C2(T:ByteArray)(hT:iq T)(n:dM){i k:Nat}{r:Rw}(S:FQ T i k r)(h5:r.verdict=5) :
  (ik n=true->(∀m∈Bo (bC T).2.sts k,iL n (cP (aM (bC T).2.sts m)) (cP (aM (bC T).2.sts m)).vars.length []=true)->iL n (cP (aM (bC T).2.sts k)) (cP (aM (bC T).2.sts k)).vars.length []=true) /\
  ((∀m∈Bo (bC T).2.sts k,fO n (cP (aM (bC T).2.sts m))=true)->gg n (cP (aM (bC T).2.sts k))=true):=by
 have hk5:(bq (bC T).2.sts k).verdict=5:=S.ver.trans h5
 have mem:∀m,RP (bC T).2.sts (aK (bC T).2.sts (bC T).2.sts.length) k m->(bq (bC T).2.sts m).verdict=1->m∈Bo (bC T).2.sts k/\AZ (bC T).2.sts m (cP (aM (bC T).2.sts m))/\dW (bC T).2.sts m=true:=fun m hr hv=>by
  have hm:m<(bC T).2.sts.length:=Nat.lt_of_le_of_lt hr.le S.fr.ha;obtain⟨s,hs,ha,-⟩:=mC (l:=(bC T).2.sts) (k:=m) (by rw[hv];rfl);refine⟨List.mem_filter.2 ⟨List.mem_range.2 hm,?_⟩,xW (BN T hT hs ha),by unfold dW;rw[hs];exact ha⟩;unfold E7;rw[(sS S.fr.ha m).2 hr,kL _ hm,hv];rfl
 refine⟨fun hp hx=>yS (pQ T) (CF T) n hp k hk5 (fun m hr hv=>?_) (xW S.fr) S.at_,fun hx=>zs (pQ T) (CF T) n k hk5 (fun m hr hv=>?_) (xW S.fr) S.at_⟩
 ·obtain⟨a1,a2,a3⟩:=mem m hr hv
  exact⟨_,a2,a3,hx m a1⟩
 ·obtain⟨a1,a2,a3⟩:=mem m hr hv
  exact⟨_,a2,a3,hx m a1⟩
theorem C3(b x gr:Nat)(T:ByteArray)(n:dM)(H:Nat->Hd)(R:List Rw)(lab:ByteArray)(w:World)(hn:bm w b x T (.slice (some ⟨gr,0,none⟩) R.length R.length) n H)(hr:w.heap[gr]?=some (.cells (d8 R).toArray 53 (0,0)))(hl:R.length<=1000000) :
  Calls Tryz.prog 35 #[.pointer (some ⟨b,0,none⟩),.string lab] w fun e w'=>e=.returned (.int .i64 (bQ (sO R lab)))/\w'=w:=by
 have hbw:=af.lt hn;have c2:w.cell? ⟨b,2,none⟩=some (.slice (some ⟨gr,0,none⟩) R.length R.length):=by rw[af.cell hn];rfl
 have hgw:=ac hr;have HCK:Hid (∀k (hk:k<R.length),w.cell? ⟨gr,k*6,none⟩=some (.string R[k].label)):=fun k hk=>(ly hr (fun j v hj=>by simpa using hj) k hk).1
 clear hn hr;go_enter Tryz.func35,Tryz.ntmps35;go_wp2
 go_loopg [5] R.length (fun g i wr=>∃k:Nat,k<=R.length/\g=R.length-k/\i=.int .i64 k/\Hid (∀i,i<k->E6 R lab i=false)/\wr=w)
 case atStart=>exact⟨0,by omega,by omega,rfl,fun i hi=>by omega,rfl⟩
 case round =>
  obtain⟨k,hk,hg,rfl,hall,rfl⟩:=hrel
  by_cases hlt:k<R.length
  ·have ck:=HCK.out k hlt
   have hki:(k:Int)<(R.length:Int):=by omega
   have HG:Hid (E6 R lab k=(R[k].label.toList==lab.toList)):=by show _=_;unfold E6;rw[List.getElem?_eq_getElem hlt]
   generalize R[k].label=y at *
   cases hb:(y.toList==lab.toList)
   ·have HN:Hid (∀i,i<k+1->E6 R lab i=false):=by
     intro i hi
     by_cases e:i=k
     ·subst e;rw[HG.out];exact hb
     ·exact hall.out i (by omega)
    clear HG;go_wp2
    go_roundg (R.length-(k+1))
    case measure=>omega
    case rel=>exact⟨k+1,by omega,rfl,by go_num,HN,rfl⟩
   ·have HF:Hid (sO R lab=some k):=gK hlt (by rw[HG.out];exact hb) hall.out
    clear HG;go_wp2;go_ret;exact⟨ar (by rw[HF.out];rfl),rfl⟩
  ·have HF:Hid (sO R lab=none):=fQ (fun i hi=>hall.out i (by omega))
   go_wp2;go_ret;exact⟨ar (by rw[HF.out];rfl),rfl⟩
theorem Ai(b x:Nat)(T:ByteArray)(fs:Fs)(Hr:Nat->Hd)(g:Nat)(lab:ByteArray)(m:Nat)(w:World)(c0:w.cell? ⟨b,0,none⟩=some (.pointer (some ⟨x,0,none⟩)))(hb:b<w.heap.size)(hT:iq T)(hR:dP w x fs (bC T).2.sts Hr g)
  (find:ey (bC T).2.sts lab=some m) (fr:nZ (bC T).2.sts m) (own:((bC T).2.sts[m]'fr.ha).label.toList=lab.toList) :
  Calls Tryz.prog 17 #[.pointer (some ⟨b,0,none⟩),.string lab] w fun e w'=>∃F lv es hg Hf,e=.returned (.tuple #[.pointer (some ⟨F,0,none⟩),.bool true])/\eJ w' F w.heap.size lab lv (cP (aM (bC T).2.sts m)) es hg Hf/\aa [] w w':=by
 have ok:=(iW T hT.size hT.inc).ok;have hz:=(yA T hT.size).szs;have hLe:=ni (bC T).2.sts m;have hhl:=mt (bC T).2.sts m;have hll:=ok.len;have hpl:(br (bC T).2.sts m).length<=100000000:=sR _ _ (by have:=kR (bC T).2.sts (aq (bC T).2.sts m);omega);have hFi:=DZ fr
 refine(ze b x lab (aM (bC T).2.sts m) w c0 hb (by omega) (by omega)
   (by
     intro w' q;refine(xy x fs _ Hr g lab w' (hR.still q) ok hz).mono ?_;rintro e w'' ⟨k1,h2⟩;rw[find]at h2;obtain⟨g',h3,h4,h5⟩:=h2;exact⟨g',h3,h4,h5,k1⟩)
   (fun k hk=>Cg fr lab own k hk) (by show 0<_;rw[hFi.2];exact fr.own.pos)).mono ?_
 rintro e w' ⟨F,gl,es,hgd,Hf,rfl,hFm,-,-,k4⟩;exact⟨F,_,es,hgd,Hf,rfl,hFm,k4⟩
theorem DY(T:ByteArray)(hT:iq T){m:Nat}(fr:nZ (bC T).2.sts m):qz (cP (aM (bC T).2.sts m))/\(cP (aM (bC T).2.sts m)).vars.length<=100000:=by
 have ok:=(iW T hT.size hT.inc).ok;have hhl:=mt (bC T).2.sts m;have hll:=ok.len;have Ff:=xW fr;have hpl:(br (bC T).2.sts m).length<=100000000:=sR _ _ (by have:=kR (bC T).2.sts (aq (bC T).2.sts m);omega);have h1:(on (bC T).2.sts m).length<=(aq (bC T).2.sts m).length:=List.length_filter_le _ _;have h2:(GJ (bC T).2.sts m).length<=(aq (bC T).2.sts m).length:=List.length_filter_le _ _;have hv:(cP (aM (bC T).2.sts m)).vars.length=(on (bC T).2.sts m).length:=by rw[Ff.vars,nj,List.length_map]
 have sy:∀k,k<(bC T).2.sts.length->((bC T).2.sts.getD k dD).symbols.length<=10000:=fun k hk=>by
  rw[List.getD_eq_getElem?_getD,List.getElem?_eq_getElem hk];exact ok.syms k hk
 refine⟨⟨by omega,by rw[Ff.types,List.length_map,hv],⟨by rw[Ff.left,List.length_map];omega,by rw[Ff.left,Ff.right,List.length_map,List.length_map]⟩,by rw[Ff.ess,List.length_map];omega,fun e he=>?_,?_⟩,by omega⟩
 ·rw[Ff.ess]at he
  obtain⟨h,hh,rfl⟩:=List.mem_map.1 he;have hh:=(List.mem_filter.1 hh).1;obtain⟨hl,hst,-⟩:=fr.hyp h hh;have e:(bC T).2.sts.getD h dD=(bC T).2.sts[h]:=by rw[List.getD_eq_getElem?_getD,List.getElem?_eq_getElem hl];rfl
  have:=sy h hl;rw[e]at this ⊢;exact⟨hst.pos,by omega⟩
 ·rw[Ff.goal]
  have e:(bC T).2.sts.getD m dD=(bC T).2.sts[m]'fr.ha:=by rw[List.getD_eq_getElem?_getD,List.getElem?_eq_getElem fr.ha];rfl
  have:=sy m fr.ha;rw[e]at this ⊢;exact⟨fr.own.pos,by omega⟩
end Go.Proofs.YtlbhbocbakijbaaGreat

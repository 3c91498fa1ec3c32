import Derived.Deep.RegionHeld3
import Derived.Test.YtlbhbocbakijbaaGreatG08
namespace Go.Proofs.YtlbhbocbakijbaaGreat
open Go.RowKit
set_option maxHeartbeats 0
structure Dt(T U:ByteArray):Prop where
 lt:T.size<U.size
 same:∀i,i<T.size->aw U i=aw T i
 lf:aw U T.size=10
theorem sd:cq 10=true:=by decide
theorem CY{T U:ByteArray}(h:Dt T U)(k:Nat)(hk:k<=T.size):(skip T k<T.size->skip U k=skip T k)/\(skip T k=T.size->skip U k=skip U (T.size+1)):=by
 have hlt:=h.lt
 suffices H:∀n k,k<=T.size->T.size-k=n->(skip T k<T.size->skip U k=skip T k)/\(skip T k=T.size->skip U k=skip U (T.size+1)) from H _ k hk rfl
 intro n
 induction n with
 | zero =>
  intro k hk hn;have e:k=T.size:=by omega
  subst e;have e1:skip T T.size=T.size:=iF T _ (by omega);refine⟨fun h1=>by omega,fun _=>lj U _ hlt (by rw[h.lf];exact sd)⟩
 | succ n ih =>
  intro k hk hn;have hkl:k<T.size:=by omega
  cases hb:cq (aw T k) with
  | true =>
   rw[lj T k hkl hb,lj U k (by omega) (by rw[h.same k hkl];exact hb)];exact ih (k+1) (by omega) (by omega)
  | false =>
   have e1:skip T k=k:=iF T k (by simp[hb]);have e2:skip U k=k:=iF U k (by rw[h.same k hkl];simp[hb]);rw[e1,e2];exact⟨fun _=>rfl,fun h1=>by omega⟩
theorem vq{T U:ByteArray}(h:Dt T U)(k:Nat)(hk:k<=T.size):aW U k=aW T k:=by
 have hlt:=h.lt
 suffices H:∀n k,k<=T.size->T.size-k=n->aW U k=aW T k from H _ k hk rfl
 intro n
 induction n with
 | zero =>
  intro k hk hn;have e:k=T.size:=by omega
  subst e;rw[iH T _ (by omega),iH U _ (by rw[h.lf];simp[sd])]
 | succ n ih =>
  intro k hk hn;have hkl:k<T.size:=by omega
  by_cases hb:cq (aw T k)=false/\gx (aw T k)=true
  ·rw[tp T k hkl hb.1 hb.2,tp U k (by omega) (by rw[h.same k hkl];exact hb.1) (by rw[h.same k hkl];exact hb.2)]
   exact ih (k+1) (by omega) (by omega)
  ·rw[iH T k (fun hh=>hb ⟨hh.2.1,hh.2.2⟩),iH U k (fun hh=>hb (by rw[<-h.same k hkl];exact⟨hh.2.1,hh.2.2⟩))]
theorem tN{T U:ByteArray}(h:Dt T U)(a z:Nat)(hz:z<=T.size):U.extract a z=T.extract a z:=by
 have hlt:=h.lt
 apply ByteArray.ext
 apply Array.ext
 ·simp;omega
 ·intro i h1 h2
  have hi:a+i<T.size:=by simp at h2;omega
  have:=h.same (a+i) hi;rw[aU U _ (by omega),aU T _ hi]at this;have e:U[a+i].toNat=T[a+i].toNat:=by omega
  have e2:U[a+i]=T[a+i]:=UInt8.toNat_inj.1 e;simpa [ByteArray.getElem_eq_getElem_data] using e2
theorem Ak(d:ByteArray)(k:Nat)(hk:k<=d.size):skip d (skip d k)=skip d k:=by
 suffices H:∀n k,k<=d.size->d.size-k=n->skip d (skip d k)=skip d k from H _ k hk rfl
 intro n
 induction n with
 | zero =>
  intro k hk hn;have e:skip d k=k:=iF d k (by omega);rw[e,e]
 | succ n ih =>
  intro k hk hn
  by_cases hb:k<d.size/\cq (aw d k)=true
  ·rw[lj d k hb.1 hb.2];exact ih (k+1) (by omega) (by omega)
  ·rw[iF d k hb,iF d k hb]
theorem s7(d:ByteArray)(k:Nat)(h:d.size<=k)(hk:k<=d.size):aH d k=(⟨⟨#[]⟩,0,true,k⟩,k):=by
 have a:=iY d k hk;have b:=fR d (skip d k) a.2;have e:skip d k=k:=by omega
 have e2:aW d k=k:=by rw[e]at b;omega
 simp only[aH,e,e2];rw[if_neg (by omega),if_pos (by omega)]
theorem CT(d:ByteArray)(k:Nat)(h:(aH d k).1.fin=true):(aH d k).1.rule=0:=by
 unfold aH at h ⊢;simp only at h ⊢
 split at h
 ·cases h
 ·next h1 =>
  rw[if_neg h1]
  split at h
  ·next h2=>rw[if_pos h2]
  ·cases h
theorem lT(d:ByteArray)(k:Nat)(hk:k<=d.size) :
  (∃z,z<d.size/\aW d (skip d k)=z/\cq (aw d z)=false/\aH d k=(⟨⟨#[]⟩,1,false,z⟩,z)) ∨
  (skip d k=d.size/\aH d k=(⟨⟨#[]⟩,0,true,d.size⟩,d.size)) ∨
  (∃z,skip d k<z/\z<=d.size/\aW d (skip d k)=z/\¬(z<d.size/\cq (aw d z)=false)/\aH d k=(⟨d.extract (skip d k) z,0,false,skip d k⟩,z)):=by
 have a:=iY d k hk;have b:=fR d (skip d k) a.2
 by_cases h1:aW d (skip d k)<d.size/\cq (aw d (aW d (skip d k)))=false
 ·left
  refine⟨aW d (skip d k),h1.1,rfl,h1.2,?_⟩;simp only[aH];rw[if_pos h1]
 ·by_cases h2:aW d (skip d k)<=skip d k
  ·right;left
   have e:aW d (skip d k)=skip d k:=by omega
   have es:skip d k=d.size:=by
    rcases Nat.lt_or_ge (skip d k) d.size with hl | hl
    ·exfalso
     rw[e]at h1
     have hbt:cq (aw d (skip d k))=true:=by
      cases hb:cq (aw d (skip d k)) with
      | true=>rfl
      | false=>exact absurd ⟨hl,hb⟩ h1
     have e3:=lj d (skip d k) hl hbt;have e4:skip d (skip d k)=skip d k:=Ak d k hk;have:=iY d (skip d k+1) (by omega);omega
    ·omega
   refine⟨es,?_⟩;simp only[aH];rw[if_neg h1,if_pos h2,e,es]
  ·right;right
   refine⟨aW d (skip d k),by omega,b.2,rfl,h1,?_⟩;simp only[aH];rw[if_neg h1,if_neg h2]
theorem s8{T U:ByteArray}(h:Dt T U)(k:Nat)(hk:k<=T.size) :
  ((aH T k).1.fin=false->aH U k=aH T k)/\((aH T k).1.fin=true->aH U k=aH U (T.size+1)/\aH T k=(⟨⟨#[]⟩,0,true,T.size⟩,T.size)):=by
 have hlt:=h.lt;have sp:=CY h k hk;have sl:=iY T k hk
 rcases lT T k hk with ⟨z,hz,hw,hb,he⟩ | ⟨hs,he⟩ | ⟨z,hz1,hz2,hw,hb,he⟩
 ·refine⟨fun _=>?_,fun hf=>by rw[he]at hf;cases hf⟩
  have a:=fR T (skip T k) sl.2;have es:skip U k=skip T k:=sp.1 (by omega);have ew:aW U (skip T k)=z:=(vq h _ sl.2).trans hw;rw[he];simp only[aH,es,ew];rw[if_pos ⟨by omega,by rw[h.same z hz];exact hb⟩]
 ·refine⟨fun hf=>(by rw[he]at hf;cases hf),fun _=>⟨?_,he⟩⟩
  have es:=sp.2 hs;simp only[aH,es]
 ·refine⟨fun _=>?_,fun hf=>by rw[he]at hf;cases hf⟩
  have es:skip U k=skip T k:=sp.1 (by omega);have ew:aW U (skip T k)=z:=(vq h _ sl.2).trans hw;rw[he];simp only[aH,es,ew]
  have hne:¬(z<U.size/\cq (aw U z)=false):=by
   rintro ⟨_,hbz⟩
   rcases Nat.lt_or_ge z T.size with hl | hl
   ·rw[h.same z hl]at hbz;exact hb ⟨hl,hbz⟩
   ·have:z=T.size:=by omega
    rw[this,h.lf,sd]at hbz;cases hbz
  rw[if_neg hne,if_neg (by omega),tN h _ _ hz2]
theorem mg(d:ByteArray)(k:Nat):(aB d k).1.fin=false:=by
 unfold aB;generalize d.size-k+1=f
 induction f generalizing k with
 | zero=>rfl
 | succ f ih =>
  rw[bw]
  split
  ·split
   ·rfl
   ·exact ih _
  ·split
   ·rfl
   ·next h=>simpa using h
theorem nK{T U:ByteArray}(h:Dt T U)(k:Nat)(hk:k<=T.size)(h3:(aB T k).1.rule≠3):aB U k=aB T k:=by
 have hlt:=h.lt
 suffices H:∀n k,k<=T.size->T.size-k<=n->(aB T k).1.rule≠3->aB U k=aB T k from H _ k hk (Nat.le_refl _) h3
 clear hk h3 k;intro n
 induction n with
 | zero =>
  intro k hk hn h3
  exfalso
  apply h3
  have e:k=T.size:=by omega
  subst e;have hr:aH T T.size=(⟨⟨#[]⟩,0,true,T.size⟩,T.size):=s7 T T.size (Nat.le_refl _) (Nat.le_refl _);rw[jw T T.size (by rw[hr];rfl) (by rw[hr])]
 | succ n ih =>
  intro k hk hn h3;have rp:=s8 h k hk;have rl:=dR T k hk
  cases hf:(aH T k).1.fin with
  | true =>
   exfalso;apply h3
   have e:=(rp.2 hf).2;rw[jw T k (by rw[e];rfl) hf]
  | false =>
   have er:=rp.1 hf
   cases hw:aA (aH T k).1 with
   | true =>
    have rl2:=rl.2.2 hw
    cases hx:((aH T k).1.text.toList == [36,41]) with
    | true=>rw[i7 T k hw hx,i7 U k (by rw[er];exact hw) (by rw[er];exact hx),er]
    | false =>
     cases hy:it (aH T k).1.text with
     | true=>rw[ju T k hw hx hy,ju U k (by rw[er];exact hw) (by rw[er];exact hx) (by rw[er];exact hy),er]
     | false =>
      rw[lF T k hk hw hx hy]at h3 ⊢;rw[lF U k (by omega) (by rw[er];exact hw) (by rw[er];exact hx) (by rw[er];exact hy),er];exact ih _ rl.2.1 (by omega) h3
   | false=>rw[j8 T k hw hf,j8 U k (by rw[er];exact hw) (by rw[er];exact hf),er]
theorem pF(d:ByteArray)(k j:Nat)(hk:k<=d.size)(hj:j<=d.size)(h:aH d k=aH d j):ak d k=ak d j:=by
 obtain⟨f,hf⟩:∃f,f=d.size+1:=⟨_,rfl⟩
 rw[<-ko d (f+1) k hk (by omega),<-ko d (f+1) j hj (by omega),cn,cn,h]
theorem pG{T U:ByteArray}(h:Dt T U)(k:Nat)(hk:k<=T.size)(h3:(ak T k).1.rule≠3) :
  ((ak T k).1.fin=false->ak U k=ak T k)/\((ak T k).1.fin=true->ak U k=ak U (T.size+1)):=by
 have hlt:=h.lt
 suffices H:∀n k,k<=T.size->T.size-k<=n->(ak T k).1.rule≠3->((ak T k).1.fin=false->ak U k=ak T k)/\((ak T k).1.fin=true->ak U k=ak U (T.size+1)) from H _ k hk (Nat.le_refl _) h3
 clear hk h3 k;intro n
 induction n with
 | zero =>
  intro k hk hn h3;have e:k=T.size:=by omega
  subst e;have hr:aH T T.size=(⟨⟨#[]⟩,0,true,T.size⟩,T.size):=s7 T T.size (Nat.le_refl _) (Nat.le_refl _);have hn':ak T T.size=aH T T.size:=gJ T _ (Or.inl (by rw[hr];rfl));rw[hn',hr];exact⟨fun hf=>(by cases hf),fun _=>pF U _ _ (by omega) (by omega) ((s8 h T.size (Nat.le_refl _)).2 (by rw[hr])).1⟩
 | succ n ih =>
  intro k hk hn h3;have rp:=s8 h k hk;have rl:=dR T k hk
  cases hf:(aH T k).1.fin with
  | true =>
   have hr:=(rp.2 hf).2;have hn':ak T k=aH T k:=gJ T _ (Or.inl (by rw[hr];rfl));rw[hn'];refine⟨fun hf'=>?_,fun _=>pF U _ _ (by omega) (by omega) (rp.2 hf).1⟩;rw[hf]at hf';cases hf'
  | false =>
   have er:=rp.1 hf
   by_cases hc:aA (aH T k).1=true/\((aH T k).1.text.toList == [36,40])=true
   ·have rl2:=rl.2.2 hc.1
    cases hcw:aA (aB T (aH T k).2).1 with
    | true =>
     have c3:(aB T (aH T k).2).1.rule≠3:=by rw[lK hcw];simp
     have ec:=nK h (aH T k).2 rl.2.1 c3;have cl:=dJ T (aH T k).2 rl.2.1;rw[sK T k hk hc.1 hc.2 hcw]at h3 ⊢;rw[sK U k (by omega) (by rw[er];exact hc.1) (by rw[er];exact hc.2) (by rw[er,ec];exact hcw),er,ec];exact ih _ cl.2 (by omega) h3
    | false =>
     rw[kp T k hc.1 hc.2 hcw]at h3 ⊢;have ec:=nK h (aH T k).2 rl.2.1 h3;refine⟨fun _=>?_,fun hf'=>?_⟩
     ·rw[kp U k (by rw[er];exact hc.1) (by rw[er];exact hc.2) (by rw[er,ec];exact hcw),er,ec]
     ·rw[mg]at hf';cases hf'
   ·have hc':aA (aH T k).1=false∨((aH T k).1.text.toList == [36,40])=false:=by
     cases h1:aA (aH T k).1 with
     | false=>exact Or.inl rfl
     | true =>
      cases h2:((aH T k).1.text.toList == [36,40]) with
      | false=>exact Or.inr rfl
      | true=>exact absurd ⟨h1,h2⟩ hc
    rw[gJ T k hc'];refine⟨fun _=>?_,fun hf'=>?_⟩
    ·rw[gJ U k (by rw[er];exact hc'),er]
    ·rw[hf]at hf';cases hf'
theorem zF(d:ByteArray)(k:Nat)(h:(ak d k).1.fin=true):(ak d k).1.rule=0:=by
 unfold ak at h ⊢;generalize d.size-k+1=f at h ⊢
 induction f generalizing k with
 | zero=>rfl
 | succ f ih =>
  rw[cn]at h ⊢
  split at h
  ·next h1 =>
   rw[if_pos h1]
   split at h
   ·next h2=>rw[if_pos h2];exact ih _ h
   ·rw[mg]at h;cases h
  ·next h1=>rw[if_neg h1];exact CT d k h
theorem uU(d:ByteArray)(k:Nat)(hk:k<=d.size):k<=(aH d k).1.pos/\(aH d k).1.pos<=d.size:=by
 have a:=iY d k hk;have b:=fR d (skip d k) a.2
 rcases lT d k hk with ⟨z,hz,hw,_,he⟩ | ⟨hs,he⟩ | ⟨z,hz1,hz2,hw,_,he⟩
 ·rw[he];simp only;omega
 ·rw[he];simp only;omega
 ·rw[he];simp only;omega
theorem sf(d:ByteArray)(k:Nat)(hk:k<=d.size):k<=(aB d k).1.pos/\(aB d k).1.pos<=d.size:=by
 unfold aB;generalize d.size-k+1=f
 induction f generalizing k with
 | zero=>simp[bw,hk]
 | succ f ih =>
  have rp:=uU d k hk;have rl:=dR d k hk;rw[bw]
  split
  ·split
   ·exact rp
   ·have:=ih (aH d k).2 rl.2.1;omega
  ·split
   ·exact rp
   ·exact rp
theorem rA(d:ByteArray)(k:Nat)(hk:k<=d.size):k<=(ak d k).1.pos/\(ak d k).1.pos<=d.size:=by
 unfold ak;generalize d.size-k+1=f
 induction f generalizing k with
 | zero=>simp[cn,hk]
 | succ f ih =>
  have rp:=uU d k hk;have rl:=dR d k hk;rw[cn]
  split
  ·have cl:=dJ d (aH d k).2 rl.2.1
   have cp:=sf d (aH d k).2 rl.2.1
   split
   ·have:=ih _ cl.2;omega
   ·omega
  ·exact rp
theorem zt(s:ByteArray)(i j:Nat)(h:i<=j):aD s i<=aD s j:=by
 induction j with
 | zero =>
      have:i=0:=by omega
      subst this;omega
 | succ j ih =>
  by_cases e:i=j+1
  ·subst e;omega
  ·have:=ih (by omega)
   rw[aD];split <;> omega
theorem po{T U:ByteArray}(h:Dt T U)(k:Nat)(hk:k<=T.size):aD U k=aD T k/\bb U k=bb T k:=by
 induction k with
 | zero=>exact⟨rfl,rfl⟩
 | succ k ih =>
  have i:=ih (by omega);rw[aD,aD,bb,bb,h.same k (by omega),i.1,i.2];exact⟨rfl,rfl⟩
theorem zU(n s:ByteArray)(k:Nat)(d:Db)(hk:k<=s.size)(h:(bU n s k d).1.1≠0):k<=(bU n s k d).1.2/\(bU n s k d).1.2<=s.size:=by
 unfold bU at h ⊢;generalize s.size-k+1=f at h ⊢
 induction f generalizing k d with
 | zero=>simp[dl]at h
 | succ f ih =>
  have np:=rA s k hk;have nl:=cT s k hk;rw[dl]at h ⊢
  split at h
  ·next h1 =>
   rw[if_pos h1]
   split at h
   ·next h2 =>
    rw[if_pos h2];have:=ih _ _ nl.2.1 h;omega
   ·next h2=>rw[if_neg h2];exact np
  ·next h1 =>
   rw[if_neg h1]
   split at h
   ·next h2 =>
    rw[if_pos h2]
    split at h
    ·simp at h
    ·next h3=>rw[if_neg h3];exact np
   ·next h2=>rw[if_neg h2];exact np
theorem Cw{T U:ByteArray}(h:Dt T U)(n:ByteArray)(p:Nat)(hp:p<=T.size):eT n U p=eT n T p:=by
 unfold eT;rw[(po h p hp).1,(po h p hp).2]
theorem pU(n s:ByteArray)(k j:Nat)(d:Db)(hk:k<=s.size)(hj:j<=s.size)(h:ak s k=ak s j):bU n s k d=bU n s j d:=by
 obtain⟨f,hf⟩:∃f,f=s.size+1:=⟨_,rfl⟩
 rw[<-ky n s (f+1) k d hk (by omega),<-ky n s (f+1) j d hj (by omega),dl,dl,h]
theorem uN{T U:ByteArray}(h:Dt T U)(nm:ByteArray)(k:Nat)(d:Db)(hk:k<=T.size)(h0:(bU nm T k d).1.1=0):eF (bU nm T k d).2=false/\bU nm U k d=bU nm U (T.size+1) (bU nm T k d).2:=by
 have hlt:=h.lt
 suffices H:∀n k d,k<=T.size->T.size-k<=n->(bU nm T k d).1.1=0->eF (bU nm T k d).2=false/\bU nm U k d=bU nm U (T.size+1) (bU nm T k d).2 from H _ k d hk (Nat.le_refl _) h0
 clear hk h0 k d;intro n
 induction n with
 | zero =>
  intro k d hk hn h0;have e:k=T.size:=by omega
  subst e;have hr:aH T T.size=(⟨⟨#[]⟩,0,true,T.size⟩,T.size):=s7 T T.size (Nat.le_refl _) (Nat.le_refl _);have hn':ak T T.size=aH T T.size:=gJ T _ (Or.inl (by rw[hr];rfl));have np:=pG h T.size (Nat.le_refl _) (by rw[hn',hr];simp);have hw:aA (ak T T.size).1=false:=by rw[hn',hr];rfl
  have hf:(ak T T.size).1.fin=true:=by rw[hn',hr]
  cases ho:eF d with
  | true=>rw[ny nm T _ d hw hf ho]at h0;simp at h0
  | false=>rw[pV nm T _ d hw hf ho];exact⟨ho,pU nm U _ _ d (by omega) (by omega) (np.2 hf)⟩
 | succ n ih =>
  intro k d hk hn h0;have nl:=cT T k hk
  cases hw:aA (ak T k).1 with
  | true =>
   have np:=pG h k hk (by rw[lK hw];simp);have hf:(ak T k).1.fin=false:=by rw[lK hw]
   have en:=np.1 hf;have nl2:=nl.2.2 hw;have ep:=Cw h nm (ak T k).1.pos (rA T k hk).2
   cases ht:((aS d (ak T k).1.text (eT nm T (ak T k).1.pos)).1==0) with
   | true =>
    rw[sW nm T k d hk hw ht]at h0 ⊢;rw[sW nm U k d (by omega) (by rw[en];exact hw) (by rw[en,ep];exact ht),en,ep];exact ih _ _ nl.2.1 (by omega) h0
   | false =>
    rw[rK nm T k d hw ht]at h0;simp only at h0;rw[h0]at ht;simp at ht
  | false =>
   cases hf:(ak T k).1.fin with
   | true =>
    cases ho:eF d with
    | true=>rw[ny nm T k d hw hf ho]at h0;simp at h0
    | false =>
     have h3:(ak T k).1.rule≠3:=by rw[zF T k hf];simp
     rw[pV nm T k d hw hf ho];exact⟨ho,pU nm U _ _ d (by omega) (by omega) ((pG h k hk h3).2 hf)⟩
   | false =>
    rw[uM nm T k d hw hf]at h0;have:=kh hw hf;simp only at h0;rw[h0]at this;simp at this
def nO(s:ByteArray)(i:Nat):Bool:=(s.extract i (i+2)).toList == [36,91]
def fB(s:ByteArray):Bool:=(List.range s.size).any (fun i=>decide (i+2<=s.size)&&nO s i)
theorem dy(a b:ByteArray)(i:Nat)(h:i<a.size):aw (a++b) i=aw a i:=by
 have h2:i<(a++b).size:=by rw[ByteArray.size_append];omega
 rw[aU _ _ h2,aU _ _ h,ByteArray.getElem_append_left h]
theorem dd(a b:ByteArray)(i:Nat)(h:i<b.size):aw (a++b) (a.size+i)=aw b i:=by
 have h2:a.size+i<(a++b).size:=by rw[ByteArray.size_append];omega
 rw[aU _ _ h2,aU _ _ h,ByteArray.getElem_append_right (by omega)];simp
theorem ot:(⟨#[10]⟩:ByteArray).size=1:=rfl
theorem wL(T c:ByteArray):Dt T (T++⟨#[10]⟩++c):=by
 have s1:(T++⟨#[10]⟩).size=T.size+1:=by rw[ByteArray.size_append,ot]
 refine⟨by rw[ByteArray.size_append,s1];omega,fun i hi=>?_,?_⟩
 ·rw[dy _ _ _ (by omega),dy _ _ _ hi]
 ·rw[dy _ _ _ (by omega)]
  have:=dd T ⟨#[10]⟩ 0 (by rw[ot];omega);rw[Nat.add_zero]at this;rw[this];decide +kernel
theorem rH(T c:ByteArray)(i:Nat)(h:i<c.size):aw (T++⟨#[10]⟩++c) (T.size+1+i)=aw c i:=by
 have s1:(T++⟨#[10]⟩).size=T.size+1:=by rw[ByteArray.size_append,ot]
 have:=dd (T++⟨#[10]⟩) c i h;rw[s1]at this;exact this
theorem tO(s:ByteArray)(i:Nat)(h:i+2<=s.size):(s.extract i (i+2)).toList=[s[i],s[i+1]]:=by
 rw[ByteArray.toList_eq];have h1:i+2<=s.data.toList.length:=h
 have e:(s.extract i (i+2)).data.toList=(s.data.toList.drop i).take 2:=by
  simp[ByteArray.data_extract,Array.toList_extract]
 rw[e,List.drop_eq_getElem_cons (by omega),List.drop_eq_getElem_cons (by omega)];simp[ByteArray.getElem_eq_getElem_data]
theorem nf(s:ByteArray)(i:Nat)(h:i+2<=s.size):nO s i=true ↔ aw s i=36/\aw s (i+1)=91:=by
 unfold nO;rw[tO s i h,aU s i (by omega),aU s (i+1) (by omega)];simp only[beq_iff_eq,List.cons.injEq,and_true]
 constructor
 ·rintro ⟨a,b⟩;rw[a,b];exact⟨rfl,rfl⟩
 ·rintro ⟨a,b⟩
  exact⟨UInt8.toNat_inj.1 (by show _=36;omega),UInt8.toNat_inj.1 (by show _=91;omega)⟩
theorem rr(s:ByteArray):fB s=false ↔ ∀i,i+2<=s.size->¬(aw s i=36/\aw s (i+1)=91):=by
 constructor
 ·intro h i hi hb
  have:fB s=true:=ol i (by omega) (by simp[hi,(nf s i hi).2 hb]);rw[h]at this;cases this
 ·intro h
  refine r7 (fun i hi=>?_)
  by_cases h2:i+2<=s.size
  ·cases hc:nO s i with
   | true=>exact absurd ((nf s i h2).1 hc) (h i h2)
   | false=>simp
  ·simp[h2]
theorem we(T c:ByteArray)(h1:fB T=false)(h2:fB c=false):fB (T++⟨#[10]⟩++c)=false:=by
 have p:=wL T c;have sz:(T++⟨#[10]⟩++c).size=T.size+1+c.size:=by rw[ByteArray.size_append,ByteArray.size_append,ot]
 rw[rr]at h1 h2 ⊢;rintro i hi ⟨ha,hb⟩
 rcases Nat.lt_or_ge (i+1) T.size with hl | hl
 ·exact h1 i (by omega) ⟨by rw[<-p.same i (by omega)];exact ha,by rw[<-p.same (i+1) hl];exact hb⟩
 ·rcases Nat.lt_or_ge i T.size with hl2 | hl2
  ·have:i+1=T.size:=by omega
   rw[this,p.lf]at hb;omega
  ·rcases Nat.lt_or_ge T.size i with hl3 | hl3
   ·obtain⟨j,rfl⟩:∃j,i=T.size+1+j:=⟨i-(T.size+1),by omega⟩
    rw[rH T c j (by omega)]at ha;rw[show T.size+1+j+1=T.size+1+(j+1) by omega,rH T c (j+1) (by omega)]at hb;exact h2 j (by omega) ⟨ha,hb⟩
   ·have:i=T.size:=by omega
    rw[this,p.lf]at ha;omega
theorem zE(d:ByteArray)(k:Nat)(hk:k<=d.size)(h:aA (ak d k).1=true):∃a z,z<=d.size/\(ak d k).1.text=d.extract a z:=by
 unfold ak at h ⊢;generalize d.size-k+1=f at h ⊢
 induction f generalizing k with
 | zero=>simp[cn,aA]at h
 | succ f ih =>
  have rl:=dR d k hk;have cl:=dJ d (aH d k).2 rl.2.1;rw[cn]at h ⊢
  split at h
  ·next h1 =>
   rw[if_pos h1]
   split at h
   ·next h2=>rw[if_pos h2];exact ih _ cl.2 h
   ·next h2=>exact absurd h h2
  ·next h1 =>
   rw[if_neg h1]
   rcases lT d k hk with ⟨z,_,_,_,he⟩ | ⟨_,he⟩ | ⟨z,_,hz2,_,_,he⟩
   ·rw[he]at h;simp[aA]at h
   ·rw[he]at h;simp[aA]at h
   ·rw[he];exact⟨_,z,hz2,rfl⟩
theorem pH(T:ByteArray)(h:fB T=false):Bd T:=by
 intro k hk hw;obtain⟨a,z,hz,ht⟩:=zE T k hk hw;rw[ht]
 cases hc:((T.extract a z).toList == [36,91]) with
 | false=>rfl
 | true =>
  exfalso
  have hl:(T.extract a z).toList=[36,91]:=by simpa using hc
  have hlen:(T.extract a z).toList.length=2:=by rw[hl];rfl
  have hsz:(T.extract a z).size=2:=by rw[ByteArray.toList_eq]at hlen;exact hlen
  have e:z=a+2:=by simp at hsz;omega
  subst e;have:nO T a=true:=by unfold nO;exact hc
  exact(rr T).1 h a hz ((nf T a hz).1 this)
def bC(T:ByteArray):(Int×Nat)×Db:=bU ⟨#[109]⟩ T 0 bh
structure iq(T:ByteArray):Prop where
 size:T.size<=1024
 ok:(bC T).1.1=0
 inc:fB T=false
theorem vR:iq ⟨#[]⟩:=⟨by decide,by decide +kernel,by decide +kernel⟩
theorem zB(T c:ByteArray)(hT:iq T)(hne:(bC (T++⟨#[10]⟩++c)).1.1≠0):aD T T.size+1<=aD (T++⟨#[10]⟩++c) (bC (T++⟨#[10]⟩++c)).1.2:=by
 have pr:=wL T c;have he:=(uN pr ⟨#[109]⟩ 0 bh (Nat.zero_le _) hT.ok).2;unfold bC at hne ⊢;rw[he]at hne ⊢;have hz:T.size+1<=(T++⟨#[10]⟩++c).size:=pr.lt;have hp:=zU ⟨#[109]⟩ (T++⟨#[10]⟩++c) (T.size+1) _ hz hne;have m:=zt (T++⟨#[10]⟩++c) (T.size+1) _ hp.1
 have l1:aD (T++⟨#[10]⟩++c) (T.size+1)=aD T T.size+1:=by
  rw[aD,pr.lf,(po pr T.size (Nat.le_refl _)).1];simp
 omega
theorem xo(d:Db)(x:ByteArray)(p:Pl):(aS d x p).2.proof=d.proof∨(aS d x p).2.proof=[]∨(aS d x p).2.proof=d.proof++[(x,p)]:=by
 unfold aS
 split
 ·left
  unfold az
  split
  ·rfl
  ·split
   ·split
    ·rfl
    ·unfold eV;split <;> rfl
   ·split
    ·split <;> rfl
    ·split
     ·rfl
     ·split
      ·rfl
      ·split
       ·rfl
       ·unfold aX
        repeat' split
        all_goals rfl
 ·split
  ·left;unfold aG
   repeat' split
   all_goals rfl
  ·split
   ·unfold iK
    split
    ·left;rfl
    ·split
     ·left;rfl
     ·right;left;rfl
   ·split
    ·left;unfold bF;split <;> rfl
    ·split
     ·left;rfl
     ·split
      ·right;right;rfl
      ·split
       ·left;rfl
       ·left;rfl
theorem vj(d:Db)(x:ByteArray)(p:Pl):(aS d x p).2.sts=d.sts∨(∃y∈d.rbl,(aS d x p).2.sts=cr d.sts y)∨((aS d x p).2.sts=d.sts++[⟨d.kind,d.label,d.symbols,d.proof,p,0⟩]/\0<d.symbols.length):=by
 unfold aS
 split
 ·unfold az
  split
  ·left;rfl
  ·split
   ·split
    ·left;rfl
    ·unfold eV
     split
     ·left;rfl
     ·next y hy=>right;left;exact⟨y,List.mem_of_getLast? hy,rfl⟩
   ·split
    ·split <;> (left;rfl)
    ·split
     ·left;rfl
     ·split
      ·left;rfl
      ·split
       ·left;rfl
       ·left;unfold aX
        repeat' split
        all_goals rfl
 ·split
  ·left;unfold aG
   repeat' split
   all_goals rfl
  ·split
   ·unfold iK
    split
    ·left;rfl
    ·next hl =>
     have hpos:0<d.symbols.length:=by
      unfold dX at hl
      split at hl <;> omega
     split
     ·left;rfl
     ·unfold bX
      split
      ·left;rfl
      ·split
       ·left;rfl
       ·right;right
        refine⟨?_,hpos⟩;unfold cZ
        split <;> rfl
   ·split
    ·left;unfold bF;split <;> rfl
    ·split
     ·left;rfl
     ·split
      ·left;rfl
      ·split
       ·left;rfl
       ·left;rfl
theorem Dg(d:Db)(x:ByteArray)(p:Pl):(aS d x p).2.rbl=d.rbl∨(aS d x p).2.rbl=d.rbl.dropLast∨(aS d x p).2.rbl=d.rbl++[d.sts.length]:=by
 unfold aS
 split
 ·unfold az
  split
  ·right;right;rfl
  ·split
   ·split
    ·left;rfl
    ·unfold eV
     split
     ·left;rfl
     ·right;left;rfl
   ·split
    ·split <;> (left;rfl)
    ·split
     ·left;rfl
     ·split
      ·left;rfl
      ·split
       ·left;rfl
       ·left;unfold aX
        repeat' split
        all_goals rfl
 ·left
  split
  ·unfold aG
   repeat' split
   all_goals rfl
  ·split
   ·unfold iK
    split
    ·rfl
    ·split
     ·rfl
     ·unfold bX
      split
      ·rfl
      ·split
       ·rfl
       ·unfold cZ;split <;> rfl
   ·split
    ·unfold bF;split <;> rfl
    ·split
     ·rfl
     ·split
      ·rfl
      ·split <;> rfl
structure Dq(S:List St)(d:Db):Prop where
 pre:∃m,d.sts=S++m
 rbl:∀y∈d.rbl,S.length<=y
theorem vO(S m:List St)(y:Nat)(h:S.length<=y):∃m',cr (S++m) y=S++m':=by
 refine⟨(cr (S++m) y).drop S.length,?_⟩
 have e:(cr (S++m) y).take S.length=S:=by
  apply List.ext_getElem?
  intro i;rw[List.getElem?_take]
  split
  ·next hi =>
   unfold cr cU;rw[List.getElem?_mapIdx,List.getElem?_append_left hi,List.getElem?_eq_getElem hi];rw[Option.map_some,if_neg (by omega)]
  ·rw[List.getElem?_eq_none];omega
 conv=>lhs;rw[<-List.take_append_drop S.length (cr (S++m) y),e]
theorem Dq.take{S:List St}{d:Db}(h:Dq S d)(x:ByteArray)(p:Pl):Dq S (aS d x p).2:=by
 obtain⟨m,hm⟩:=h.pre;refine⟨?_,?_⟩
 ·rcases vj d x p with e | ⟨y,hy,e⟩ | ⟨e,_⟩
  ·exact⟨m,by rw[e,hm]⟩
  ·rw[e,hm];exact vO S m y (h.rbl y hy)
  ·exact⟨m++[_],by rw[e,hm,List.append_assoc]⟩
 ·rcases Dg d x p with e | e | e
  ·rw[e];exact h.rbl
  ·rw[e];intro y hy;exact h.rbl y (List.dropLast_subset _ hy)
  ·rw[e]
   intro y hy
   rcases List.mem_append.1 hy with hy | hy
   ·exact h.rbl y hy
   ·rw[List.mem_singleton.1 hy,hm,List.length_append];omega
theorem wP{S:List St}(n s:ByteArray)(f:Nat):∀k d,Dq S d->Dq S (dl n s f k d).2:=by
 induction f with
 | zero=>intro k d h;exact h
 | succ f ih =>
  intro k d h;rw[dl]
  split
  ·split
   ·exact ih _ _ (h.take _ _)
   ·exact h.take _ _
  ·split
   ·split <;> exact h
   ·exact h
theorem zT{S:List St}(n s:ByteArray)(k:Nat)(d:Db)(h:Dq S d):Dq S (bU n s k d).2:=wP n s _ k d h
theorem wO(n s:ByteArray)(f:Nat):∀k d,(∃m,iI d m)->∃m,iI (dl n s f k d).2 m:=by
 induction f with
 | zero=>intro k d h;exact h
 | succ f ih =>
  intro k d h;have ht:=fun x p=>(show ∃m,iI (aS d x p).2 m from h.elim fun m hm=>⟨m+1,hm.take x p⟩)
  rw[dl]
  split
  ·split
   ·exact ih _ _ (ht _ _)
   ·exact ht _ _
  ·split
   ·split <;> exact h
   ·exact h
theorem Dq.begin{d:Db}{m:Nat}(h:iI d m)(ho:eF d=false):Dq d.sts d:=by
 refine⟨⟨[],by simp⟩,fun y hy=>?_⟩;have hs:=h.same
 have hb:d.blocks.length=0:=by
  unfold eF at ho;simp only[Bool.or_eq_false_iff,decide_eq_false_iff_not]at ho;omega
 rw[hb]at hs;rw[List.eq_nil_of_length_eq_zero hs]at hy
 cases hy
theorem Ck(T c:ByteArray)(hT:iq T):∃m,(bC (T++⟨#[10]⟩++c)).2.sts=(bC T).2.sts++m:=by
 have he:=uN (wL T c) ⟨#[109]⟩ 0 bh (Nat.zero_le _) hT.ok;obtain⟨m,hm⟩:=wO ⟨#[109]⟩ T (T.size-0+1) 0 bh ⟨0,iI.empty⟩;have x:=zT ⟨#[109]⟩ (T++⟨#[10]⟩++c) (T.size+1) _ (Dq.begin (d:=(bU ⟨#[109]⟩ T 0 bh).2) hm he.1);rw[<-he.2]at x;exact x.pre
structure GL(S T:ByteArray):Prop where
 le:S.size<=T.size
 same:∀i,i<S.size->aw T i=aw S i
theorem Az(d:ByteArray)(c:UInt8)(h:(d.toList == [36,c])=true):d.size=2/\aw d 0=36/\aw d 1=(c.toNat:Int):=by
 have hl:d.toList=[36,c]:=by simpa using h
 have hl2:d.data.toList=[36,c]:=by rw[<-ByteArray.toList_eq];exact hl
 have hd:d=⟨#[36,c]⟩:=by
  apply ByteArray.ext
  apply Array.toList_inj.1
  exact hl2
 subst hd;exact⟨rfl,rfl,rfl⟩
structure Rw where
 label:ByteArray
 verdict:Int
 why:Int
 at_:Pl
def gB(r:Rw):List Value:=[.string r.label,.int .i64 r.verdict,.int .i64 r.why,.string r.at_.file,.int .i64 r.at_.line,.int .i64 r.at_.col]
def d8(l:List Rw):List Value:=l.flatMap gB
def kB(l:List Rw):eI:=⟨53,6,l.length,d8 l⟩
def fJ:Pl:=⟨⟨#[]⟩,0,0⟩
def jX:Rw:=⟨⟨#[]⟩,0,0,fJ⟩
theorem z6(l:List Rw)(s:Rw):(⟨(kB l).e,(kB l).size,(kB l).n+1,(kB l).xs++gB s⟩:eI)=kB (l++[s]):=by simp[kB,d8]
theorem yB(s:Rw):∀u∈gB s,u.oneCell'=true:=by
 intro u hu;simp only[gB,List.mem_cons,List.not_mem_nil,or_false]at hu
 rcases hu with rfl | rfl | rfl | rfl | rfl | rfl <;> rfl
theorem E3:(Tryz.prog.info? 53).map (fun i=>(i.zero,i.size,i.bytes))=some (some (.agg #[.string ⟨#[]⟩,.int .i64 0,.int .i64 0,.string ⟨#[]⟩,.int .i64 0,.int .i64 0]),6,64):=by kernel_rfl
theorem uV(l:List Rw):(d8 l).length=l.length*6:=by
 induction l with
 | nil=>rfl
 | cons x r ih =>
  have e:d8 (x :: r)=gB x++d8 r:=rfl;rw[e,List.length_append,ih];simp[gB];omega
theorem s9(l:List Rw)(k:Nat)(hk:k<l.length)(j:Nat)(hj:j<6):(d8 l)[k*6+j]?=(gB l[k])[j]?:=by
 induction l generalizing k with
 | nil=>simp at hk
 | cons s r ih =>
  have e:d8 (s :: r)=gB s++d8 r:=rfl;rw[e]
  cases k with
  | zero=>rw[List.getElem?_append_left (by simp[gB];omega)];simp
  | succ k =>
   rw[List.getElem?_append_right (by simp[gB];omega)];have e2:(k+1)*6+j-(gB s).length=k*6+j:=by simp[gB];omega
   rw[e2,ih k (by simpa using hk)];rfl
def dI(p:Pl):Prop:=-1000000000<=p.line/\p.line<=1000000000
theorem ly{w:World}{g:Nat}{cur:Array Value}{t:TypeId}{L:List Rw}(h:w.heap[g]?=some (.cells cur t (0,0)))(hx:∀(j:Nat) v,(d8 L)[j]?=some v->cur[j]?=some v)(k:Nat)(hk:k<L.length) :
  w.cell? ⟨g,k*6,none⟩=some (.string L[k].label)/\w.cell? ⟨g,k*6+1,none⟩=some (.int .i64 L[k].verdict)/\w.cell? ⟨g,k*6+2,none⟩=some (.int .i64 L[k].why)/\w.cell? ⟨g,k*6+3,none⟩=some (.string L[k].at_.file)/\w.cell? ⟨g,k*6+4,none⟩=some (.int .i64 L[k].at_.line)/\w.cell? ⟨g,k*6+5,none⟩=some (.int .i64 L[k].at_.col):=by
 have c:=fun j (hj:j<6) v (hv:(gB L[k])[j]?=some v)=>(ab h (k*6+j)).trans (hx _ _ ((s9 L k hk j hj).trans hv))
 exact⟨c 0 (by omega) _ rfl,c 1 (by omega) _ rfl,c 2 (by omega) _ rfl,c 3 (by omega) _ rfl,c 4 (by omega) _ rfl,c 5 (by omega) _ rfl⟩
def dn:Option Nat->Nat->Value
 | none,_=>.slice none 0 0
 | some g,n=>.slice (some ⟨g,0,none⟩) n n
def dG(w:World):Option Nat->List Rw->Prop
 | none,L=>L=[]
 | some g,L=>0<L.length/\w.heap[g]?=some (.cells (d8 L).toArray 53 (0,0))
theorem dG.kept{w w':World}{o:Option Nat}{L:List Rw}{S:List Nat}(h:dG w o L)(k:aa S w w')(hS:∀g,o=some g->g∉S):dG w' o L:=by
 cases o with
 | none=>exact h
 | some g=>exact⟨h.1,k.get h.2 (hS g rfl)⟩
theorem dG.still{w w':World}{o:Option Nat}{L:List Rw}(h:dG w o L)(k:aa [] w w'):dG w' o L:=h.kept k (by simp)
theorem dG.lt{w:World}{o:Option Nat}{L:List Rw}(h:dG w o L)(g:Nat)(e:o=some g):g<w.heap.size:=by
 subst e;exact ac h.2
structure xI(L:List Rw):Prop where
 len:L.length<=100000
 line:∀r∈L,dI r.at_
theorem uW(s f:ByteArray)(v y l c:Int)(w:World)(hl:-1000000000<=l/\l<=1000000000) :
  Calls Tryz.prog 83 #[.agg #[.string s,.int .i64 v,.int .i64 y,.string f,.int .i64 l,.int .i64 c],.agg #[.string s,.int .i64 v,.int .i64 y,.string f,.int .i64 l,.int .i64 c],.int .i64 0] w fun e w'=>e=.returned (.bool true)/\aa [] w w':=by
 have hw:IntKind.i64.wrap (l+0)=l:=by rw[IntKind.wrap_i64];omega
 cases hf:(f.toList == [])
 ·go_enter Tryz.func83,Tryz.ntmps83
  go_wp2;go_ret;exact⟨rfl,((aa.refl _ _).alloc _).alloc _⟩
 ·go_enter Tryz.func83,Tryz.ntmps83
  go_wp2;go_ret;exact⟨rfl,((aa.refl _ _).alloc _).alloc _⟩
set_option maxRecDepth 100000 in
theorem lz(g1 g2 c1 c2:Nat)(L:List Rw)(w:World)(cur1 cur2:Array Value)(t1 t2:TypeId)(h1:w.heap[g1]?=some (.cells cur1 t1 (0,0)))(h2:w.heap[g2]?=some (.cells cur2 t2 (0,0)))
  (x1:∀(j:Nat) v,(d8 L)[j]?=some v->cur1[j]?=some v) (x2:∀(j:Nat) v,(d8 L)[j]?=some v->cur2[j]?=some v) (hL:L.length<=100000) (hl:∀r∈L,dI r.at_) :
  Calls Tryz.prog 66 #[.slice (some ⟨g1,0,none⟩) L.length c1,.slice (some ⟨g2,0,none⟩) L.length c2,.int .i64 0] w fun e w'=>e=.returned (.bool true)/\aa [] w w':=by
 have hg1:=ac h1;have hg2:=ac h2;go_enter Tryz.func66,Tryz.ntmps66;go_wp2
 go_loopg [7,8] L.length (fun g i _ wr=>∃k:Nat,k<=L.length/\g=L.length-k/\i=.int .i64 k/\aa [] w wr)
 case atStart=>exact⟨0,by omega,by omega,rfl,aa.refl _ _⟩
 case round =>
  obtain⟨k,hk,hg,rfl,hK⟩:=hrel
  by_cases hlt:k<L.length
  ·obtain⟨a0,a1,a2,a3,a4,a5⟩:=ly (hK.get h1 (by simp)) x1 k hlt
   obtain⟨b0,b1,b2,b3,b4,b5⟩:=ly (hK.get h2 (by simp)) x2 k hlt;have hr:=hl L[k] (List.getElem_mem hlt);have hs:=hK.size;generalize L[k]=r at *;obtain⟨la,ve,wy,⟨fi,li,co⟩⟩:=r;simp only[dI]at a0 a1 a2 a3 a4 a5 b0 b1 b2 b3 b4 b5 hr
   go_upto_region 6 with fail
   go_region_with (go_at_call 83;refine(uW la fi ve wy li co _ hr).mono ?_;rintro e w2 ⟨rfl,hk2⟩)
   all_goals
    have hK2:=hK.trans ((aa.refl [] wr).drew.trans hk2);go_wp2
    go_roundg (L.length-(k+1))
    case measure=>omega
    case rel=>exact⟨k+1,by omega,rfl,by go_num,hK2⟩
  ·go_wp2
   go_ret;exact⟨rfl,hK⟩
theorem jH(a1 a2:Option Addr)(c1 c2:Nat)(w:World) :
  Calls Tryz.prog 66 #[.slice a1 0 c1,.slice a2 0 c2,.int .i64 0] w fun e w'=>e=.returned (.bool true)/\aa [] w w':=by
 go_enter Tryz.func66,Tryz.ntmps66;go_wp2;refine wp_loop_rounds 1 ?_;rw[rounds_succ];go_wp2;go_ret;exact⟨rfl,aa.refl _ _⟩
theorem ta(o1 o2:Option Nat)(L:List Rw)(w:World)(h1:dG w o1 L)(h2:dG w o2 L)(ok:xI L) :
  Calls Tryz.prog 66 #[dn o1 L.length,dn o2 L.length,.int .i64 0] w fun e w'=>e=.returned (.bool true)/\aa [] w w':=by
 cases o1 with
 | none =>
  have hn:L=[]:=h1;subst hn
  cases o2 with
  | none=>exact jH _ _ _ _ _
  | some g=>exact absurd h2.1 (by simp)
 | some g1 =>
  cases o2 with
  | none =>
       have hn:L=[]:=h2;subst hn;exact absurd h1.1 (by simp)
  | some g2=>exact lz g1 g2 _ _ L w _ _ _ _ h1.2 h2.2 (fun j v h=>by simpa using h) (fun j v h=>by simpa using h) ok.len ok.line
theorem vF(o1 o2:Option Nat)(L M:List Rw)(w:World)(h1:dG w o1 L)(h2:dG w o2 (L++M))(ok:xI (L++M)) :
  Calls Tryz.prog 46 #[dn o1 L.length,dn o2 (L++M).length] w fun e w'=>e=.returned (.bool true)/\aa [] w w':=by
 have hlen:=ok.len;have hml:(L++M).length=L.length+M.length:=List.length_append
 cases o1 with
 | none =>
  have hn:L=[]:=h1;subst hn
  cases o2 with
  | none =>
   go_enter Tryz.func46,Tryz.ntmps46;unfold dn;go_wp2_with fail;refine(jH _ _ _ _ _).mono ?_;rintro e w1 ⟨rfl,hk⟩;go_wp2;go_ret;exact⟨rfl,hk⟩
  | some g2 =>
   go_enter Tryz.func46,Tryz.ntmps46;unfold dn;simp only[List.nil_append]at hlen ⊢;generalize M.length=n at *;go_wp2_with fail;refine(jH _ _ _ _ _).mono ?_;rintro e w1 ⟨rfl,hk⟩;go_wp2;go_ret;exact⟨rfl,hk⟩
 | some g1 =>
  cases o2 with
  | none =>
       have hn:L++M=[]:=h2;have:L.length=0:=by rw[(List.append_eq_nil_iff.1 hn).1];rfl
       have:=h1.1;omega
  | some g2 =>
   have SR:=fun c1 c2=>lz g1 g2 c1 c2 L w _ _ _ _ h1.2 h2.2 (fun j v h=>by simpa using h) (fun j v hj=>by
    have hl:=(List.getElem?_eq_some_iff.1 hj).1;unfold d8 at hj hl ⊢;rw[List.flatMap_append];simp only[List.getElem?_toArray];rw[List.getElem?_append_left hl];exact hj) (by omega) (fun r hr=>ok.line r (List.mem_append_left _ hr))
   have HSR:=(show Hid _ from SR);have hpos:=h1.1;clear SR ok;rw[hml]at hlen ⊢;generalize L.length=n at *;generalize M.length=m at *;go_enter Tryz.func46,Tryz.ntmps46;unfold dn;go_wp2_with fail;refine(HSR.out _ _).mono ?_;rintro e w1 ⟨rfl,hk⟩;go_wp2;go_ret;exact⟨rfl,hk⟩
theorem pm(s:ByteArray)(w:World)(hs:s.size<=4294967296) :
  Calls Tryz.prog 44 #[.string s,.string ⟨#[36,91]⟩] w fun e w'=>e=.returned (.bool (fB s))/\w'=w:=by
 go_enter Tryz.func44,Tryz.ntmps44;go_wp2
 go_loopg [5] s.size (fun g i wr=>∃k:Nat,k<=s.size/\g=s.size-k/\i=.int .i64 k/\Hid (∀i,i<k->i+2<=s.size->nO s i=false)/\wr=w)
 case atStart=>exact⟨0,by omega,by omega,rfl,fun i h=>by omega,rfl⟩
 case round =>
  obtain⟨k,hk,hg,rfl,hall,rfl⟩:=hrel
  by_cases hlt:k+2<=s.size
  ·cases hb:((s.extract k (k+2)).toList == [36,91])
   ·go_wp2
    go_roundg (s.size-(k+1))
    case measure=>omega
    case rel =>
     refine⟨k+1,by omega,rfl,by go_num,?_,rfl⟩;intro i hi h2
     by_cases e:i=k
     ·subst e;exact hb
     ·exact hall.out i (by omega) h2
   ·have HY:Hid (fB s=true):=ol k (by omega) (by simp[hlt,nO,hb])
    go_wp2;go_ret;exact⟨GQ HY.out.symm,rfl⟩
  ·have HY:Hid (fB s=false):=r7 (fun i hi=>by
    by_cases h2:i+2<=s.size
    ·simp[hall.out i (by omega) h2]
    ·simp[h2])
   go_wp2;go_ret;exact⟨GQ HY.out.symm,rfl⟩
theorem zv(s:ByteArray)(w:World)(hs:s.size<=1073741824) :
  Calls Tryz.prog 47 #[.string s] w fun e w'=>e=.returned (.int .i64 (aD s s.size-1))/\w'=w:=by
 go_enter Tryz.func47,Tryz.ntmps47;go_wp2
 go_loopg [3,4] s.size (fun g m i wr=>∃(k:Nat) (l:Int),k<=s.size/\g=s.size-k/\i=.int .i64 k/\m=.int .i64 l/\Hid (l=aD s k-1)/\0<=l/\l<=k/\wr=w)
 case atStart=>exact⟨0,0,by omega,by omega,rfl,rfl,rfl,by omega,by omega,rfl⟩
 case round =>
  obtain⟨k,l,hk,hg,rfl,rfl,hl,hl0,hlk,rfl⟩:=hrel
  by_cases hlt:k<s.size
  ·cases hb:((s[k].toNat:Int)==10)
   ·have HL:Hid (l=aD s (k+1)-1):=by show l=_;rw[aD,aU s k hlt,hb,hl.out];simp
    clear hl;go_wp2
    go_roundg (s.size-(k+1))
    case measure=>omega
    case rel=>exact⟨k+1,l,by omega,rfl,by go_num,rfl,HL,hl0,by omega,rfl⟩
   ·have HL:Hid (l+1=aD s (k+1)-1):=by show l+1=_;rw[aD,aU s k hlt,hb,hl.out];simp
    clear hl;go_wp2
    go_roundg (s.size-(k+1))
    case measure=>omega
    case rel=>exact⟨k+1,l+1,by omega,rfl,by go_num,rfl,HL,by omega,by omega,rfl⟩
  ·have HL:Hid (l=aD s s.size-1):=by show l=_;rw[hl.out,show k=s.size by omega]
   clear hl;go_wp2;go_ret;exact⟨ar HL.out,rfl⟩
def fZ(w:World)(b off:Nat)(l:List ByteArray):Prop:=b<w.heap.size/\∀i (h:i<l.length),w.cell? ⟨b,off+i,none⟩=some (.string l[i])
theorem fZ.kept{w w':World}{b off:Nat}{l:List ByteArray}{S:List Nat}(h:fZ w b off l)(hk:aa S w w')(hb:b∉S):fZ w' b off l :=
 ⟨Nat.lt_of_lt_of_le h.1 hk.size,fun i hi=>(World.cell?_of_block (hk.block b h.1 hb)).trans (h.2 i hi)⟩
def lA(l:List ByteArray):Nat->Int
 | 0=>l.length
 | k+1=>lA l k+(l.getD k ⟨#[]⟩).size
theorem Dc(l:List ByteArray)(k:Nat):(l.length:Int)<=lA l k/\∀i,i<k->((l.getD i ⟨#[]⟩).size:Int)<=lA l k:=by
 induction k with
 | zero=>simp[lA]
 | succ k ih =>
  rw[lA];refine⟨by omega,fun i hi=>?_⟩
  by_cases e:i=k
  ·subst e;omega
  ·have:=ih.2 i (by omega);omega
theorem Al(b off cap:Nat)(l:List ByteArray)(w:World)(hl:l.length<=140737488351232)(hls:∀x,x∈l->x.size<=140737488351232)(hc:fZ w b off l) :
  Calls Tryz.prog 5 #[.slice (some ⟨b,off,none⟩) l.length cap] w fun e w'=>(∃r,e=.returned (.bool r)/\(r=true->l.length<=1073741824/\∀i,i<l.length->(l.getD i ⟨#[]⟩).size<=1073741824))/\w'=w:=by
 by_cases h0:1073741824<l.length
 ·go_enter Tryz.func5,Tryz.ntmps5
  go_wp2;go_ret;exact⟨⟨false,rfl,by simp⟩,rfl⟩
 ·go_enter Tryz.func5,Tryz.ntmps5
  go_wp2
  go_loopg [3,4] l.length (fun g m i wr=>∃(k:Nat) (z:Int),k<=l.length/\g=l.length-k/\i=.int .i64 k/\m=.int .i64 z/\Hid (z=lA l k)/\0<=z/\z<=1073741824/\wr=w)
  case atStart=>exact⟨0,l.length,by omega,by omega,rfl,rfl,rfl,by omega,by omega,rfl⟩
  case round =>
   obtain⟨k,z,hk,hg,rfl,rfl,hz,hz0,hz1,rfl⟩:=hrel
   by_cases hlt:k<l.length
   ·have c1:=hc.2 k hlt
    have e0:l.getD k ⟨#[]⟩=l[k]:=by rw[List.getD_eq_getElem?_getD,List.getElem?_eq_getElem hlt];rfl
    have hx:=hls l[k] (List.getElem_mem hlt);have HZ:Hid (lA l (k+1)=z+(l[k]).size):=by show lA l (k+1)=_;rw[lA,e0,hz.out]
    clear hz e0
    by_cases hb:(1073741824:Int)<z+(l[k]).size
    ·go_wp2
     go_ret;exact⟨⟨false,rfl,by simp⟩,rfl⟩
    ·go_wp2
     go_roundg (l.length-(k+1))
     case measure=>omega
     case rel=>exact⟨k+1,z+(l[k]).size,by omega,rfl,by go_num,rfl,HZ.out.symm,by omega,by omega,rfl⟩
   ·have HZ:Hid (z=lA l l.length):=by show z=_;rw[hz.out,show k=l.length by omega]
    clear hz;go_wp2;go_ret;refine⟨⟨true,rfl,fun _=>⟨by omega,fun i hi=>?_⟩⟩,rfl⟩;have:=(Dc l l.length).2 i hi;rw[<-HZ.out]at this;omega
theorem iT(t n:ByteArray)(r l c:Int)(f:Bool)(w:World) :
  Calls Tryz.prog 107 #[.agg #[.string t,.int .i64 r,.bool f,.string n,.int .i64 l,.int .i64 c]] w fun e w'=>e=.returned (.agg #[.int .i64 (if f=true then 7 else r),.string n,.int .i64 l,.int .i64 c])/\aa [] w w':=by
 cases f
 ·go_enter Tryz.func107,Tryz.ntmps107
  go_wp2;exact bodyPost_ret (v:=.agg #[.int .i64 r,.string n,.int .i64 l,.int .i64 c]) (by simp[results,Tryz.results107,go_sem]) rfl ⟨rfl,((aa.refl _ _).alloc _).alloc _⟩
 ·go_enter Tryz.func107,Tryz.ntmps107
  go_wp2;exact bodyPost_ret (v:=.agg #[.int .i64 7,.string n,.int .i64 l,.int .i64 c]) (by simp[results,Tryz.results107,go_sem]) rfl ⟨rfl,((aa.refl _ _).alloc _).alloc _⟩
def cD(v:Nat)(bg:List Bool):List Value:=.pointer (some ⟨v,0,none⟩) :: bg.map Value.bool
theorem fj(v:Nat)(bg:List Bool)(h:bg.length=4):(cD v bg).length=5:=by simp[cD,h]
theorem aE.pre{w:World}{b t:Nat}{pre post:List Value}{d:Db}{H:Nat->Hd}(h:aE w b t pre post d H)(i:Nat)(hi:i<pre.length)(u:Value) :
  aE (w.setCell ⟨b,i,none⟩ u) b t (pre.set i u) post d H/\ag b w H (w.setCell ⟨b,i,none⟩ u) H:=by
 refine⟨⟨?_,?_,h.apart,h.off⟩,(dw.refl _ _).setCell (Or.inl (Or.inl rfl)) _,fun _ hk=>Or.inl hk⟩
 ·rw[ae h.blk,List.setIfInBounds_toArray,List.set_append_left _ _ hi]
 ·intro j
  refine(h.own j).moved (fun k hk=>Below.heap_setCell _ _ _ _ ?_);rintro rfl;exact h.off j hk
theorem aE.preCell{w:World}{b t:Nat}{pre post:List Value}{d:Db}{H:Nat->Hd}(h:aE w b t pre post d H)(i:Nat)(hi:i<pre.length):w.cell? ⟨b,i,none⟩=pre[i]?:=by
 rw[ab h.blk];simp[List.getElem?_append_left hi]
def dE(b sp:Nat)(w:World)(H:Nat->Hd)(w':World)(H':Nat->Hd):Prop :=
 dw (fun k=>k=b∨k=sp∨cK H k) w w'/\∀k,cK H' k->cK H k∨w.heap.size<=k
theorem ag.moved{b:Nat}{w w':World}{H H':Nat->Hd}(sp:Nat)(t:ag b w H w' H'):dE b sp w H w' H' :=
 ⟨⟨t.1.os,t.1.tape,t.1.output,t.1.size,fun k hk hn=>t.1.block k hk (fun e=>hn (e.elim Or.inl (fun e=>Or.inr (Or.inr e))))⟩,t.2⟩
theorem dE.trans{b sp:Nat}{w0 w1 w2:World}{H0 H1 H2:Nat->Hd}(a:dE b sp w0 H0 w1 H1)(c:dE b sp w1 H1 w2 H2):dE b sp w0 H0 w2 H2:=by
 refine⟨⟨c.1.os.trans a.1.os,c.1.tape.trans a.1.tape,c.1.output.trans a.1.output,Nat.le_trans a.1.size c.1.size,?_⟩,?_⟩
 ·intro k hk hn
  rw[<-a.1.block k hk hn];refine c.1.block k (Nat.lt_of_lt_of_le hk a.1.size) ?_;rintro (e | e | hm)
  ·exact hn (Or.inl e)
  ·exact hn (Or.inr (Or.inl e))
  ·rcases a.2 k hm with h | h
   ·exact hn (Or.inr (Or.inr h))
   ·omega
 ·intro k hk
  rcases c.2 k hk with h | h
  ·exact a.2 k h
  ·exact Or.inr (Nat.le_trans a.1.size h)
theorem dE.refl(b sp:Nat)(w:World)(H:Nat->Hd):dE b sp w H w H:=⟨dw.refl _ _,fun _ hk=>Or.inl hk⟩
theorem dE.still{b sp:Nat}{w0 w1 w2:World}{H0 H1:Nat->Hd}(a:dE b sp w0 H0 w1 H1)(c:aa [] w1 w2):dE b sp w0 H0 w2 H1 :=
 a.trans ⟨c.toP (by simp),fun _ hk=>Or.inl hk⟩
theorem dE.first{b sp:Nat}{w0 w1 w2:World}{H0 H1:Nat->Hd}(c:aa [] w0 w1)(a:dE b sp w1 H0 w2 H1):dE b sp w0 H0 w2 H1 :=
 dE.trans ⟨c.toP (by simp),fun _ hk=>Or.inl hk⟩ a
theorem dE.scan{b sp:Nat}{w0 w1 w2:World}{H0 H1:Nat->Hd}(a:dE b sp w0 H0 w1 H1)(c:aa [sp] w1 w2):dE b sp w0 H0 w2 H1 :=
 a.trans ⟨c.toP (by intro k hk _;simp at hk;exact Or.inr (Or.inl hk)),fun _ hk=>Or.inl hk⟩
theorem dE.beyond{b sp:Nat}{w wr w':World}{H H1:Nat->Hd}{S:List Nat}(T:dE b sp w H wr H1)(k:aa S wr w')(hS:∀x,x∈S->w.heap.size<=x):dE b sp w H w' H1 :=
 ⟨⟨k.os.trans T.1.os,k.tape.trans T.1.tape,k.output.trans T.1.output,Nat.le_trans T.1.size k.size,fun i hi hn=>by
  rw[<-T.1.block i hi hn];exact k.block i (Nat.lt_of_lt_of_le hi T.1.size) (fun hm=>by have:=hS i hm;omega)⟩,T.2⟩
theorem dE.fresh{b sp:Nat}{w w2:World}{H H2:Nat->Hd}(T:dE b sp w H w2 H2)(F:Nat)(h1:F<w.heap.size)(h2:¬cK H F):¬cK H2 F:=by
 intro hm
 rcases T.2 F hm with h | h
 ·exact h2 h
 ·omega
theorem ag.fresh{b:Nat}{w w2:World}{H H2:Nat->Hd}(T:ag b w H w2 H2)(F:Nat)(h1:F<w.heap.size)(h2:¬cK H F):¬cK H2 F:=by
 intro hm
 rcases T.2 F hm with h | h
 ·exact h2 h
 ·omega
theorem fe{w:World}{r:Nat}(a0 a1 a2 a3:Value):aa [r] w ((((w.setCell ⟨r,0,none⟩ a0).setCell ⟨r,1,none⟩ a1).setCell ⟨r,2,none⟩ a2).setCell ⟨r,3,none⟩ a3) :=
 ((((aa.refl _ _).setCell (Or.inl (by simp)) _).setCell (Or.inl (by simp)) _).setCell (Or.inl (by simp)) _).setCell (Or.inl (by simp)) _
theorem xd{w:World}{r:Nat}(a0 a1 a2 a3 a4 a5:Value):aa [r] w ((((((w.setCell ⟨r,0,none⟩ a0).setCell ⟨r,1,none⟩ a1).setCell ⟨r,2,none⟩ a2).setCell ⟨r,3,none⟩ a3).setCell ⟨r,4,none⟩ a4).setCell ⟨r,5,none⟩ a5) :=
 ((((((aa.refl _ _).setCell (Or.inl (by simp)) _).setCell (Or.inl (by simp)) _).setCell (Or.inl (by simp)) _).setCell (Or.inl (by simp)) _).setCell (Or.inl (by simp)) _).setCell (Or.inl (by simp)) _
def aO:Array Value:=#[.int .i64 0,.string ⟨#[]⟩,.int .i64 0,.int .i64 0]
theorem bt{w:World}{r:Nat}(h:w.heap[r]?=some (.cells aO 48 (0,0))) :
  w.cell? ⟨r,0,none⟩=some (.int .i64 0)/\w.cell? ⟨r,1,none⟩=some (.string ⟨#[]⟩)/\w.cell? ⟨r,2,none⟩=some (.int .i64 0)/\w.cell? ⟨r,3,none⟩=some (.int .i64 0):=by
 refine⟨?_,?_,?_,?_⟩ <;> (rw[ab h];rfl)
theorem jk{w w2:World}{b t F:Nat}{pre post:List Value}{d:Db}{H H2:Nat->Hd}(D:aE w2 b t pre post d H2)(T:ag b w H w2 H2)(h1:w.heap.size<=F)(h2:b≠F)(h3:¬cK H2 F)(a0 a1 a2 a3:Value) :
  aE ((((w2.setCell ⟨F,0,none⟩ a0).setCell ⟨F,1,none⟩ a1).setCell ⟨F,2,none⟩ a2).setCell ⟨F,3,none⟩ a3) b t pre post d H2 /\
  ag b w H ((((w2.setCell ⟨F,0,none⟩ a0).setCell ⟨F,1,none⟩ a1).setCell ⟨F,2,none⟩ a2).setCell ⟨F,3,none⟩ a3) H2:=by
 refine⟨D.kept (fe _ _ _ _) (by simpa using h2) (fun x hx=>by simp;rintro rfl;exact h3 hx),?_,T.2⟩;exact(((T.1.setCell (Or.inr h1) _).setCell (Or.inr h1) _).setCell (Or.inr h1) _).setCell (Or.inr h1) _
set_option maxRecDepth 100000 in
theorem nu(b t:Nat)(v:Nat)(bg:List Bool)(hbg:bg.length=4)(d:Db)(H:Nat->Hd)(sp:Value)(x n:ByteArray)(l c:Int)(w:World)(h:aE w b t (cD v bg) [] d H)(hs:dF d 10000000)(hx:x.size<=1073741824)(hi:tz d 100000000)
  (hn:(x.toList == [36,91])=false) :
  Calls Tryz.prog 105 #[.pointer (some ⟨b,0,none⟩),sp,.agg #[.string x,.int .i64 0,.bool false,.string n,.int .i64 l,.int .i64 c]] w fun e w' =>
   e=.returned (eM (if((aS d x ⟨n,l,c⟩).1==0)=true then bT else((aS d x ⟨n,l,c⟩).1,⟨n,l,c⟩))) /\
   ∃H',aE w' b t (cD v bg) [] (aS d x ⟨n,l,c⟩).2 H'/\ag b w H w' H':=by
 have hbw:=h.lt;have TK:=fun(w':World) (h':aE w' b t (cD v bg) [] d H)=>De b t 5 (cD v bg) [] d H x n l c w' h' (fj v bg hbg) hs hx hi
 unfold eD at TK;have HTK:=(show Hid _ from TK);clear TK;generalize aS d x ⟨n,l,c⟩=td at *;obtain⟨r,d'⟩:=td;simp only at HTK;obtain⟨W,hW⟩:∃W,W=((w.alloc (.cells #[.string x,.int .i64 0,.bool false,.string n,.int .i64 l,.int .i64 c] 182)).alloc (.cells #[.int .i64 0,.string ⟨#[]⟩,.int .i64 0,.int .i64 0] 48)):=⟨_,rfl⟩
 have hK:aa [] w W:=by rw[hW];exact((aa.refl [] w).alloc _).alloc _
 have hD:aE W b t (cD v bg) [] d H:=h.still hK
 have hI:W.heap[w.heap.size]?=some (.cells #[.string x,.int .i64 0,.bool false,.string n,.int .i64 l,.int .i64 c] 182 (0,0)):=by
  rw[hW];exact((aa.refl [] _).alloc _).get (heap_alloc_new _ _) (by simp)
 have hF:W.heap[w.heap.size+1]?=some (.cells aO 48 (0,0)):=by
  rw[hW];have:=heap_alloc_new (w.alloc (.cells #[.string x,.int .i64 0,.bool false,.string n,.int .i64 l,.int .i64 c] 182)) (.cells #[.int .i64 0,.string ⟨#[]⟩,.int .i64 0,.int .i64 0] 48);simpa [aO] using this
 have HNO:Hid (∀k,w.heap.size<=k->¬(k=b∨cK H k)):=by
  rintro k hk (e | hm)
  ·omega
  ·have:=h.inlt hm;omega
 have HW:=(show Hid _ from hW.symm);clear hW h;have i0:W.cell? ⟨w.heap.size,0,none⟩=some (.string x):=by rw[ab hI];rfl
 have i3:W.cell? ⟨w.heap.size,3,none⟩=some (.string n):=by rw[ab hI];rfl
 have i4:W.cell? ⟨w.heap.size,4,none⟩=some (.int .i64 l):=by rw[ab hI];rfl
 have i5:W.cell? ⟨w.heap.size,5,none⟩=some (.int .i64 c):=by rw[ab hI];rfl
 have HAF:=(show Hid _ from fun(w2:World) (H2:Nat->Hd) (D2:aE w2 b t (cD v bg) [] d' H2) (T2:ag b W.drew H w2 H2) (a0 a1 a2 a3:Value) =>
  jk D2 ((T2.first (aa.refl [] W).drew).first hK) (F:=w.heap.size+1) (by omega) (by omega) (T2.fresh (w.heap.size+1) (by exact ac hF) (fun hm=>HNO.out (w.heap.size+1) (by omega) (Or.inr hm))) a0 a1 a2 a3)
 have HCE:=(show Hid _ from fun(w2:World) (H2:Nat->Hd) (T2:ag b W.drew H w2 H2)=>(show _/\_ from⟨T2.1.get (by exact hI) (HNO.out _ (Nat.le_refl _)),T2.1.get (by exact hF) (HNO.out _ (by omega))⟩))
 have CE:∀(w2:World) (H2:Nat->Hd) (_:ag b W.drew H w2 H2),w2.cell? ⟨w.heap.size,0,none⟩=some (.string x)/\w2.cell? ⟨w.heap.size,3,none⟩=some (.string n)/\w2.cell? ⟨w.heap.size,4,none⟩=some (.int .i64 l)/\w2.cell? ⟨w.heap.size,5,none⟩=some (.int .i64 c):=by
  intro w2 H2 T2;have hI2:=(HCE.out w2 H2 T2).1;refine⟨?_,?_,?_,?_⟩ <;> (rw[ab hI2];rfl)
 have HCC:=(show Hid _ from CE);clear CE;go_enter Tryz.func105,Tryz.ntmps105
 go_upto_region 1 with fail
 rw[HW.out]
 go_upto_region 3 with fail
 cases hr:(r==0)
 ·have hr':(r != 0)=true:=by simp[bne,hr]
  go_region_held3 (fun w'=>w'.cell? ⟨w.heap.size,0,none⟩=some (.string x)/\w'.cell? ⟨w.heap.size,3,none⟩=some (.string n)/\w'.cell? ⟨w.heap.size,4,none⟩=some (.int .i64 l)/\w'.cell? ⟨w.heap.size,5,none⟩=some (.int .i64 c)) (go_keep) (first | (go_at_call 122;refine(HTK.out _ (by exact hD.still (aa.refl [] _).drew)).mono ?_;rintro e w2 ⟨rfl,H2,D2,T2⟩;obtain⟨r0,r3,r4,r5⟩:=HCC.out w2 H2 T2))
  all_goals
   have hF2:=(HCE.out w2 H2 T2).2;have HA':=(show Hid _ from HAF.out w2 H2 D2 T2);obtain⟨j0,j1,j2,j3⟩:=bt hF2;have y:=an hF2;go_wp2
   exact bodyPost_ret (v:=.agg #[.int .i64 r,.string n,.int .i64 l,.int .i64 c]) (by simp[results,Tryz.results105,go_sem,j0,j1,j2,j3]) rfl
    ⟨rfl,H2,(HA'.out _ _ _ _).1,(HA'.out _ _ _ _).2⟩
 ·have hr':(r != 0)=false:=by simp[bne,hr]
  go_region_held3 (fun w'=>w'.cell? ⟨w.heap.size,0,none⟩=some (.string x)/\w'.cell? ⟨w.heap.size,3,none⟩=some (.string n)/\w'.cell? ⟨w.heap.size,4,none⟩=some (.int .i64 l)/\w'.cell? ⟨w.heap.size,5,none⟩=some (.int .i64 c)) (go_keep) (first | (go_at_call 122;refine(HTK.out _ (by exact hD.still (aa.refl [] _).drew)).mono ?_;rintro e w2 ⟨rfl,H2,D2,T2⟩;obtain⟨r0,r3,r4,r5⟩:=HCC.out w2 H2 T2))
  all_goals
   have hF2:=(HCE.out w2 H2 T2).2;have HA':=(show Hid _ from HAF.out w2 H2 D2 T2);obtain⟨j0,j1,j2,j3⟩:=bt hF2;have y:=an hF2;go_wp2
   exact bodyPost_ret (v:=.agg #[.int .i64 0,.string ⟨#[]⟩,.int .i64 0,.int .i64 0]) (by simp[results,Tryz.results105,go_sem,j0,j1,j2,j3]) rfl
    ⟨rfl,H2,(HA'.out _ _ _ _).1,(HA'.out _ _ _ _).2⟩
end Go.Proofs.YtlbhbocbakijbaaGreat

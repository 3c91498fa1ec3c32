import Derived.Test.YtpddjjabfbfifaaGreatG31
namespace Go.Proofs.YtpddjjabfbfifaaGreat
open Go.RowKit
set_option maxHeartbeats 40000000
theorem vJ(S:List Sm)(s:Sm)(j:Nat)(h:j<S.length):au (S++[s]) j=au S j:=by
 unfold au;rw[List.getD_eq_getElem?_getD,List.getD_eq_getElem?_getD,List.getElem?_append_left h]
theorem rB(S:List Sm)(s:Sm):au (S++[s]) S.length=s:=by
 unfold au;rw[List.getD_eq_getElem?_getD,List.getElem?_append_right (Nat.le_refl _),Nat.sub_self];rfl
theorem zw(S:List Sm)(s:Sm)(j:Nat)(h:j<=S.length):jh (S++[s]) j=jh S j:=by
 unfold jh
 split
 ·rw[vJ S s (j-1) (by omega)]
 ·rfl
structure LM(T:List Tk)(S:List Sm)(j:Nat)(s:Sm):Prop where
 a:s.a=jh S j
 lt:s.a<s.z
 e:b7 (tS T (s.z-1))=true
 n:∀q,s.a<=q->q<s.z-1->b7 (tS T q)=false
 k:(s.k,s.h)=dZ T s.a
structure Aa(T:List Tk)(i:Nat)(S:List Sm)(f:Nat):Prop where
 s:∀j,j<S.length->LM T S j (au S j)/\(au S j).z<=i
 fr:f=jh S S.length
 n:∀q,f<=q->q<i->b7 (tS T q)=false
 le:f<=i
theorem Dh(T:List Tk)(i:Nat):Aa T i (dW T i).1 (dW T i).2:=by
 induction i with
 | zero=>exact⟨fun j hj=>by simp[dW]at hj,rfl,fun q _ h=>by omega,Nat.le_refl _⟩
 | succ i ih =>
  rw[dW]
  split
  ·next he =>
   generalize (dW T i).1=S at *;generalize (dW T i).2=f at *;refine⟨fun j hj=>?_,?_,fun q h1 h2=>by simp only at h1;omega,Nat.le_refl _⟩
   ·simp only[List.length_append,List.length_cons,List.length_nil]at hj
    by_cases e:j<S.length
    ·obtain⟨p,hz⟩:=ih.s j e
     rw[vJ S _ j e];exact⟨⟨by rw[zw S _ j (by omega)];exact p.a,p.lt,p.e,p.n,p.k⟩,by omega⟩
    ·have e:j=S.length:=by omega
     subst e;rw[rB];have:=ih.le;exact⟨⟨by rw[zw S _ _ (Nat.le_refl _)];exact ih.fr,by show f<i+1;omega,he,fun q h1 h2=>ih.n q h1 (by simp only at h2;omega),rfl⟩,Nat.le_refl _⟩
   ·simp only[List.length_append,List.length_cons,List.length_nil]
    unfold jh;rw[if_pos (by omega),Nat.add_sub_cancel,rB]
  ·next he =>
   refine⟨fun j hj=>?_,ih.fr,fun q h1 h2=>?_,by have:=ih.le;omega⟩
   ·obtain⟨p,hz⟩:=ih.s j hj
    exact⟨p,by omega⟩
   ·by_cases e:q=i
    ·rw[e];simpa using he
    ·exact ih.n q h1 (by omega)
theorem fL(T:List Tk):Aa T T.length (as T) (dW T T.length).2:=Dh T T.length
theorem Gy(i:Nat)(S:List Sm)(j:Nat)(h1:∀q,q<j->∃s,S[q]?=some s/\s.z<=i)(h2:∀s,S[j]?=some s->¬s.z<=i):lN i S=j:=by
 induction S generalizing j with
 | nil =>
  cases j with
  | zero=>rfl
  | succ j=>obtain⟨s,h,-⟩:=h1 0 (by omega);cases h
 | cons s r ih =>
  cases j with
  | zero=>rw[lN,if_neg (h2 s rfl)]
  | succ j =>
   obtain⟨s',e,hz⟩:=h1 0 (by omega);simp at e;subst e;rw[lN,if_pos hz,ih j (fun q hq=>by simpa using h1 (q+1) (by omega)) (fun t ht=>h2 t (by simpa using ht))]
section
variable {T:List Tk} {i0 f:Nat} {S:List Sm}
theorem CY(S:List Sm)(j:Nat)(h:j<S.length):S[j]?=some (au S j):=by
 unfold au;rw[List.getD_eq_getElem?_getD,List.getElem?_eq_getElem h];rfl
theorem Aa.step(p:Aa T i0 S f)(j:Nat)(h:j+1<S.length):(au S j).z<(au S (j+1)).z:=by
 have q:=(p.s (j+1) h).1;have:=q.lt;rw[q.a]at this;unfold jh at this;rw[if_pos (by omega),Nat.add_sub_cancel]at this;exact this
theorem Aa.mono(p:Aa T i0 S f)(j k:Nat)(h:j<=k)(hk:k<S.length):(au S j).z<=(au S k).z:=by
 induction k with
 | zero=>have:j=0:=by omega
      rw[this];exact Nat.le_refl _
 | succ k ih =>
  by_cases e:j=k+1
  ·rw[e];exact Nat.le_refl _
  ·have:=ih (by omega) (by omega)
   have:=p.step k hk;omega
theorem Aa.cnt(p:Aa T i0 S f)(j:Nat)(h:j<S.length)(i:Nat)(h1:(au S j).a<=i)(h2:i<(au S j).z):hZ S i=j:=by
 refine Gy i S j (fun q hq=>⟨au S q,CY S q (by omega),?_⟩) (fun s hs=>?_)
 ·have e:=(p.s j h).1.a
  unfold jh at e;rw[if_pos (by omega)]at e;have:=p.mono q (j-1) (by omega) (by omega);omega
 ·rw[CY S j h]at hs;cases hs
  omega
theorem Aa.beg(p:Aa T i0 S f)(j:Nat)(h:j<S.length)(i:Nat)(h1:(au S j).a<=i)(h2:i<(au S j).z):jh S (hZ S i)=(au S j).a:=by
 rw[p.cnt j h i h1 h2];exact((p.s j h).1.a).symm
end
theorem mS{x:ByteArray}{l:List UInt8}(h:(x.toList==l)=true):x=⟨l.toArray⟩:=by
 have h':x.toList=l:=by simpa using h
 apply ByteArray.ext
 apply Array.toList_inj.1
 rw[<-ByteArray.toList_eq,h']
theorem kB{x:ByteArray}(h:b7 x=true):fX x ⟨#[36]⟩=true/\(x.toList == [36,99])=false/\(x.toList == [36,118])=false/\(x.toList == [36,102])=false:=by
 unfold b7 at h
 rcases Bool.or_eq_true _ _ ▸ h with h | h
 ·rcases Bool.or_eq_true _ _ ▸ h with h | h <;> (rw[mS h];decide +kernel)
 ·rw[mS h];decide +kernel
theorem Cr{T:List Tk}{i0 f:Nat}{S:List Sm}(p:Aa T i0 S f)(j:Nat)(h:j<S.length)(q:Nat)(h1:(au S j).a<=q)(h2:q<(au S j).z):a9 T S q =
  if q=(au S j).a then cU T S (tS T q) j
  else if q<(au S j).h then(if(aE (tS T q)||aH (tS T q))=true then 0 else 14)
  else kq T S (au S j).k (tS T q) j (eD T (au S j).h q):=by
 unfold a9;rw[p.beg j h q h1 h2,p.cnt j h q h1 h2,<-(p.s j h).1.k]
theorem ua{T:List Tk}{S:List Sm}{key x:ByteArray}{n:Nat}{B:List ByteArray}(he:b7 x=true)(h:kq T S key x n B=0):(x.toList == [36,46])=true/\gd key B=0:=by
 unfold kq at h
 cases h1:(x.toList == [36,46])
 ·rw[if_neg (by rw[h1];simp)]at h
  have hs:=(kB he).1
  have h2:(x.toList == [36,61])=false:=by
   unfold b7 at he;rw[h1,Bool.false_or]at he
   rcases Bool.or_eq_true _ _ ▸ he with e | e <;> (rw[mS e];decide +kernel)
  rw[h2,Bool.false_and,if_neg (by simp),if_pos hs]at h
  cases h
 ·rw[if_pos h1]at h
  exact⟨rfl,h⟩
theorem pL{x:ByteArray}(h:(x.toList == [36,46])=true):lD x=true:=by unfold lD;rw[h];simp
theorem IN{T:List Tk}{S:List Sm}{x:ByteArray}{n:Nat}(h:(x.toList == [36,102])=true):cU T S x n=11:=by
 have e:=mS h;have d:((x.toList == [36,123])||((x.toList == [36,118])||(x.toList == [36,100])))=false/\(x.toList == [36,125])=false/\(x.toList == [36,99])=false/\(aE x||aH x)=true:=by rw[e];decide +kernel
 obtain⟨d1,d2,d3,d4⟩:=d;unfold cU;rw[d1,d2,d3,d4];simp
theorem Gb{x:ByteArray}(h:(aE x||aH x)=true):(x.toList == [36,99])=false/\(x.toList == [36,118])=false/\b7 x=false:=by
 unfold aE aH at h
 rcases Bool.or_eq_true _ _ ▸ h with h | h
 ·rcases Bool.or_eq_true _ _ ▸ h with h | h <;> (rw[mS h];decide +kernel)
 ·rcases Bool.or_eq_true _ _ ▸ h with h | h <;> (rw[mS h];decide +kernel)
theorem zk{T:List Tk}{f:Nat}{S:List Sm}(p:Aa T T.length S f)(j:Nat)(h:j<S.length)(hq:∀q,(au S j).a<=q->q<(au S j).z->a9 T S q=0) :
  (((au S j).k.toList == [36,99])=true->eF T (au S j).h)/\(((au S j).k.toList == [36,118])=true->eF T (au S j).h)/\(((au S j).k.toList == [36,102])=true->(au S j).h+1<T.length):=by
 have hW:=Cr p j h;obtain⟨P,hzT⟩:=p.s j h;generalize au S j=s at *;obtain⟨a,z,hd,k⟩:=s;obtain⟨-,lt,en,-,ky⟩:=P;simp only at *;have L0:=hq (z-1) (by omega) (by omega);rw[hW (z-1) (by omega) (by omega)]at L0;have A0:=hq a (Nat.le_refl _) lt;rw[hW a (Nat.le_refl _) lt,if_pos rfl]at A0;unfold dZ at ky;have hend:=kB en
 by_cases hA:(fX (tS T a) ⟨#[36]⟩||decide (T.length<=a+1))=true
 ·rw[if_pos hA]at ky
  cases ky
  have body:¬(z-1=a)->eF T (a+1):=fun hne=>by
   rw[if_neg hne,if_neg (by omega)]at L0;have:=ua en L0;exact⟨z-1,by omega,by omega,pL this.1⟩
  refine⟨fun hk=>body (fun e=>?_),fun hk=>body (fun e=>?_),fun hk=>?_⟩
  ·rw[e,hk]at hend;exact absurd hend.2.1 (by simp)
  ·rw[e,hk]at hend;exact absurd hend.2.2.1 (by simp)
  ·rw[IN hk]at A0;cases A0
 ·rw[if_neg hA]at ky
  cases ky
  have hno:fX (tS T a) ⟨#[36]⟩=false:=by
   cases e:fX (tS T a) ⟨#[36]⟩
   ·rfl
   ·rw[e]at hA;exact absurd rfl hA
  have hne:¬(z-1=a):=fun e=>by
   rw[e,hno]at hend;exact absurd hend.1 (by simp)
  have B0:=hq (a+1) (by omega) (by omega);rw[hW (a+1) (by omega) (by omega),if_neg (by omega),if_pos (by omega)]at B0
  have hkk:(aE (tS T (a+1))||aH (tS T (a+1)))=true:=by
   cases e:(aE (tS T (a+1))||aH (tS T (a+1)))
   ·rw[e]at B0;cases B0
   ·rfl
  obtain⟨n1,n2,n3⟩:=Gb hkk;refine⟨fun hk=>absurd hk (by rw[n1];simp),fun hk=>absurd hk (by rw[n2];simp),fun hk=>?_⟩;have hne2:¬(z-1=a+1):=fun e=>by rw[e,n3]at en;cases en
  rw[if_neg hne,if_neg (by omega)]at L0;have hc:=(ua en L0).2;unfold gd at hc
  split at hc
  ·cases hc
  ·split at hc
   ·cases hc
   ·next h1 h2 =>
    have hl:¬(eD T (a+2) (z-1)).length<2:=fun hl=>h2 (by rw[hk];simp[hl])
    unfold eD at hl;rw[List.length_map,List.length_take,List.length_drop]at hl;omega
theorem J8(T:List Tk)(hT:T.length<=100000):Lp T (as T):=by
 intro i hi hall;have p:=fL T;have hl:(as T).length<=T.length:=sB T T.length;have hn:hZ (as T) i<=(as T).length:=Kq i (as T);generalize as T=S at *
 have hz:∀j,j<hZ S i->(au S j).z<=i:=fun j hj=>by
  obtain⟨s,h1,h2⟩:=x9 i S j hj;rw[CY S j (by omega)]at h1
  cases h1;exact h2
 have hw:=fun j (hj:j<hZ S i)=>zk p j (by omega) (fun q _ h2=>hall q (by have:=hz j hj;omega))
 refine⟨⟨hn,by omega,hT,fun j hj=>(hw j hj).1,fun j hj=>(hw j hj).2.1,fun j hj=>?_⟩,fun j hj=>(hw j hj).2.2⟩;have:=(p.s j (by omega)).1.lt;have:=hz j hj;omega
set_option maxRecDepth 100000 in
theorem pr(s:ByteArray)(w:World)(hs:s.size<=1073741824) :
  Calls Tryz.prog 52 #[.string s] w fun e w'=>e=.returned (.bool (ff s))/\w'=w:=by
 by_cases h0:s.size=0
 ·have HE:Hid (ff s=false):=kM s (Or.inl (by omega))
  have h0i:((s.size:Int)==0)=true:=by simpa using h0
  go_enter Tryz.func52,Tryz.ntmps52;go_wp2;go_ret;exact⟨aB HE.out.symm,rfl⟩
 ·have h0i:((s.size:Int)==0)=false:=by simpa using h0
  by_cases h8:8<s.size
  ·have HE:Hid (ff s=false):=kM s (Or.inr (by omega))
   have h8i:(8:Int)<(s.size:Int):=by omega
   go_enter Tryz.func52,Tryz.ntmps52;go_wp2;go_ret;exact⟨aB HE.out.symm,rfl⟩
  ·have h8i:¬(8:Int)<(s.size:Int):=by omega
   have HI:Hid (ff s=(List.range s.size).all (fun i=>jl (aF s i))):=by
    show _=_
    unfold ff;rw[show decide (1<=s.size)=true by simp;omega,show decide (s.size<=8)=true by simp;omega];rfl
   go_enter Tryz.func52,Tryz.ntmps52;go_wp2
   go_loopg [3] s.size (fun g i wr=>∃k:Nat,k<=s.size/\g=s.size-k/\i=.int .i64 k/\Hid (∀i,i<k->jl (aF s i)=true)/\wr=w)
   case atStart=>exact⟨0,by omega,by omega,rfl,fun i h=>by omega,rfl⟩
   case round =>
    obtain⟨k,hk,hg,rfl,hall,rfl⟩:=hrel
    by_cases hlt:k<s.size
    ·have HNB:Hid (jl (s[k].toNat:Int)=(eN (s[k].toNat:Int) && !((s[k].toNat:Int)==36))):=rfl
     have HNO:Hid (jl (s[k].toNat:Int)=false->ff s=false):=fun hb=>by rw[HI.out];exact Ax k hlt (by rw[bI s k hlt];exact hb)
     have HYE:Hid (jl (s[k].toNat:Int)=true->∀i,i<k+1->jl (aF s i)=true):=fun hb i hi=>by
      by_cases e:i=k
      ·subst e;rw[bI s i hlt];exact hb
      ·exact hall.out i (by omega)
     have hki:(k:Int)<(s.size:Int):=by omega
     cases hp:eN (s[k].toNat:Int)
     ·have HN:=(show Hid _ from HNO.out (by rw[HNB.out,hp];rfl))
      go_wp2_with (go_at_call 78;refine(jN _ _).mono ?_;rintro e w1 ⟨rfl,hw1⟩;rw[hw1];clear hw1);go_ret;exact⟨aB HN.out.symm,rfl⟩
     ·cases hd:((s[k].toNat:Int)==36)
      ·have HN:=(show Hid _ from HYE.out (by rw[HNB.out,hp,hd];rfl))
       go_wp2_with (go_at_call 78;refine(jN _ _).mono ?_;rintro e w1 ⟨rfl,hw1⟩;rw[hw1];clear hw1)
       go_roundg (s.size-(k+1))
       case measure=>omega
       case rel=>exact⟨k+1,by omega,rfl,by go_num,HN,rfl⟩
      ·have HN:=(show Hid _ from HNO.out (by rw[HNB.out,hp,hd];rfl))
       go_wp2_with (go_at_call 78;refine(jN _ _).mono ?_;rintro e w1 ⟨rfl,hw1⟩;rw[hw1];clear hw1);go_ret;exact⟨aB HN.out.symm,rfl⟩
    ·have HY:Hid (ff s=true):=by show _=_;rw[HI.out];exact xr (fun i hi=>hall.out i (by omega))
     go_wp2;go_ret;exact⟨aB HY.out.symm,rfl⟩
theorem yn(n d:ByteArray)(w:World)(hn:n.size<=1073741824)(hd:d.size<=4294967296) :
  Calls Tryz.prog 34 #[.string n,.string d] w fun e w'=>e=.returned (.int .i64 (cn n d))/\w'=w:=by
 cases h1:ff n
 ·have HE:Hid (cn n d=2):=by show _=_;unfold cn;rw[if_pos h1]
  go_enter Tryz.func34,Tryz.ntmps34;go_wp2_with (go_at_call 52;refine(pr n _ hn).mono ?_;rintro e w1 ⟨rfl,hw1⟩;rw[hw1];clear hw1);go_ret;exact⟨am HE.out.symm,rfl⟩
 ·by_cases h2:1024<d.size
  ·have HE:Hid (cn n d=3):=by show _=_;unfold cn;rw[if_neg (by rw[h1];simp),if_pos h2]
   have h2i:(1024:Int)<(d.size:Int):=by omega
   go_enter Tryz.func34,Tryz.ntmps34;go_wp2_with (go_at_call 52;refine(pr n _ hn).mono ?_;rintro e w1 ⟨rfl,hw1⟩;rw[hw1];clear hw1);go_ret;exact⟨am HE.out.symm,rfl⟩
  ·have HE:Hid (cn n d=0):=by show _=_;unfold cn;rw[if_neg (by rw[h1];simp),if_neg h2]
   have h2i:¬(1024:Int)<(d.size:Int):=by omega
   go_enter Tryz.func34,Tryz.ntmps34;go_wp2_with (go_at_call 52;refine(pr n _ hn).mono ?_;rintro e w1 ⟨rfl,hw1⟩;rw[hw1];clear hw1);go_ret;exact⟨am HE.out.symm,rfl⟩
theorem aA.putAt{w:World}{h:Hd}{r:dK}(o:aA w h r){g:Nat}(hg:h.ao=some ⟨g,0,none⟩)(j:Nat)(v:Value):aA (w.setCell ⟨g,j,none⟩ v) h ⟨r.e,r.size,r.n,r.xs.set j v⟩:=by
 refine⟨by rw[List.length_set];exact o.1,?_⟩
 rcases o.2 with ⟨hv,hn⟩ | ⟨g',cap,cur,hv,hb,hh,h1,h2,h3,h4⟩
 ·injection hv with a1
  rw[a1]at hg;cases hg
 ·injection hv with a1 a2 a3
  rw[a1]at hg
  cases hg
  refine Or.inr ⟨g,cap,cur.setIfInBounds j v,by rw[a1,a3],hb,by rw[ah hh],h1,h2,by rw[Array.size_setIfInBounds];exact h3,?_⟩;rw[Array.toList_setIfInBounds]
  show(cur.toList.set j v).take (r.n*r.size)=r.xs.set j v
  rw[<-h4,List.take_set]
theorem aA.srcFi{w:World}{h:Hd}{fs:Fs}(o:aA w h (b8 fs)):lR w h.ao h.cap fs:=by
 refine⟨?_,fun k hk=>?_⟩
 ·rcases o.ways with ⟨e,h0,_⟩ | ⟨g,cur,e1,e2,e3,-⟩
  ·have h0:fs.length=0:=h0
   omega
  ·exact e3
 ·obtain⟨g,eg,hg,-⟩:=od o (show 0<fs.length by omega)
  obtain⟨h1,h2⟩:=uw fs k hk;exact⟨g,eg,hg,o.cell eg (k*2) _ h1,o.cell eg (k*2+1) _ h2⟩
theorem Eq(w:World) :
  Calls Tryz.prog 28 #[] w fun e w'=>e=.returned (.pointer (some ⟨w.heap.size,0,none⟩))/\fH w' w.heap.size [] ⟨none,0⟩ false (.pointer none) (.slice none 0 0) (.slice none 0 0)/\ab [] w w':=by
 have HR:Hid (fH (w.alloc (.cells #[.slice none 0 0,.bool false,.pointer none,.slice none 0 0,.slice none 0 0] 85)) w.heap.size [] ⟨none,0⟩ false (.pointer none) (.slice none 0 0) (.slice none 0 0)):=⟨heap_alloc_new _ _,World.ownsRow_nil _ _ _ _,(by intro e;cases e),by simp⟩;go_enter Tryz.func28,Tryz.ntmps28;go_wp2;go_ret;exact⟨rfl,HR.out,(ab.refl [] _).alloc _⟩
theorem KP:(Tryz.prog.info? 46).map (fun i=>(i.zero,i.size,i.bytes))=some (some (.pointer none),1,8):=by kernel_rfl
theorem KO:(Tryz.prog.info? 47).map (fun i=>(i.zero,i.size,i.bytes))=some (some (.pointer none),1,8):=by kernel_rfl
theorem vF(t:Nat)(L:List Nat)(x:Nat):(⟨(j7 t L).e,(j7 t L).size,(j7 t L).n+1,(j7 t L).xs++[IP x]⟩:dK)=j7 t (L++[x]):=by
 simp[j7]
theorem bM.addV{w w7:World}{b N X Y:Nat}{I J:Nat×Nat->It}{M:Mc}{h5 h7:Hd}(h:bM w b I M N)
  (hJ:J=fe (fe I (6,M.V.length) (Kd X [])) (7,M.V.length) (JX Y ⟨none,0⟩ []))
  (s7:nD w7 (fe (fe (fe (fe J (1,0) (dd h5 (j7 46 (M.V.map (·.1)++[X])))) (0,0) (pK b 42 (M.cells.set 0 (.slice h5.ao (M.V.length+1) h5.cap)))) (2,0) (dd h7 (j7 47 (M.V.map (·.2.1)++[Y])))) (0,0) (pK b 42 ((M.cells.set 0 (.slice h5.ao (M.V.length+1) h5.cap)).set 1 (.slice h7.ao (M.V.length+1) h7.cap))))) :
  ∃I' M',bM w7 b I' M' (N+1)/\I' (10,0)=I (10,0):=by
 refine⟨_,{ M with hx:=h5,hm:=h7,V:=M.V++[(X,Y,[])] },⟨s7,?_,?_,?_,?_,?_,?_,?_,?_,?_,?_,?_⟩,?_⟩
 ·rw[bS];unfold Mc.cells;rw[List.length_append];rfl
 ·rw[aq _ _ (bA (by decide)),aq _ _ (bA (by decide)),aq _ _ (bA (by decide)),bS,List.map_append];rfl
 ·rw[aq _ _ (bA (by decide)),bS,List.map_append];rfl
 ·subst hJ;simp only[fe];exact h.r
 ·subst hJ;simp only[fe];exact h.ls
 ·subst hJ;simp only[fe];exact h.lw
 ·intro i x m fs hi
  rw[aq _ _ (bA (by decide)),aq _ _ (bA (by decide)),aq _ _ (bA (by decide)),aq _ _ (bA (by decide)),aq _ _ (bA (by decide)),aq _ _ (bA (by decide)),aq _ _ (bA (by decide)),aq _ _ (bA (by decide))];replace hi:(M.V++[(X,Y,[])])[i]?=some (x,m,fs):=hi;subst hJ
  by_cases e:i<M.V.length
  ·rw[List.getElem?_append_left e]at hi
   rw[aq _ _ (bA (by decide)),aq _ _ (tC (by omega)),aq _ _ (tC (by omega)),aq _ _ (bA (by decide))];exact h.v i x m fs hi
  ·have e2:i=M.V.length:=by
    have:=(List.getElem?_eq_some_iff.1 hi).1;rw[List.length_append]at this;have:i<M.V.length+1:=this;omega
   subst e2;rw[List.getElem?_append_right (Nat.le_refl _),Nat.sub_self]at hi
   cases hi
   rw[aq _ _ (bA (by decide)),bS,bS];exact⟨rfl,⟨_,rfl⟩,fun j hj=>by cases hj⟩
 ·intro i x m fs hi
  subst hJ;simp only[fe];exact h.more.l i x m fs hi
 ·exact h.fit
 ·refine⟨?_,h.more.len.2.1,h.more.len.2.2⟩
  have:=h.len.1
  show(M.V++[(X,Y,[])]).length<=_
  rw[List.length_append];show _+1<=_;omega
 ·exact h.rng
 ·subst hJ;simp only[fe];rfl
set_option maxRecDepth 100000 in
theorem KR(b N:Nat)(I:Nat×Nat->It)(M:Mc)(A C D:Int)(s t:ByteArray)(w:World)(h:bM w b I M N)(hN:N<=1073741824) :
  Calls Tryz.prog 11 #[.pointer (some ⟨b,0,none⟩),.agg #[.int .i64 1,.int .i64 A,.int .i64 C,.int .i64 D,.string s,.string t]] w fun e w'=>gu b I N true e w':=by
 obtain⟨W,HW⟩:∃W,Hid (w.alloc (.cells #[.int .i64 1,.int .i64 A,.int .i64 C,.int .i64 D,.string s,.string t] 28)=W):=⟨_,rfl⟩
 obtain⟨hM,hB,hbw,-⟩:=h.boxed 1 A C D s t W HW.out;obtain⟨o0,-⟩:=ee hB;have oz:=ae hB;obtain⟨iX,hiX,hzX0,hzX1,hzX2⟩:=info_parts KP;obtain⟨iM,hiM,hzM0,hzM1,hzM2⟩:=info_parts KO;have HM:Hid (bM W b I M N):=hM;have hPx:Hid ((j7 46 (M.V.map (·.1))).n<=4294967296):=by show(M.V.map _).length<=_;rw[List.length_map];have:=h.len.1;omega
 have hPm:Hid ((j7 47 (M.V.map (·.2.1))).n<=4294967296):=by show(M.V.map _).length<=_;rw[List.length_map];have:=h.len.1;omega
 have HXn:Hid ((j7 46 (M.V.map (·.1))).n=M.V.length):=List.length_map _;have HMn:Hid ((j7 47 (M.V.map (·.2.1))).n=M.V.length):=List.length_map _;clear h hM hB;go_enter Tryz.func11,Tryz.ntmps11
 go_upto_region 1 with fail
 rw[HW.out]
 go_upto_region 5 with (go_at_call 27;refine Calls.mono (IQ W) ?_;rintro e w1 ⟨rfl,hX,k1⟩)
 have S1:=(show Hid _ from HM.out.sep.put (6,M.V.length) (Kd W.heap.size []) (k1.mono (by simp)) hX.anyR (fun q hq=>Or.inr (by rw[List.mem_singleton.1 hq];exact Nat.le_refl _)))
 go_upto_region 6 with (go_at_call 28;refine Calls.mono (Eq w1) ?_;rintro e w2 ⟨rfl,hY,k2⟩)
 have S2:=(show Hid _ from S1.out.put (7,M.V.length) (JX w1.heap.size ⟨none,0⟩ []) (k2.mono (by simp)) ⟨_,_,_,_,hY⟩ (fun q hq=>Or.inr (by rcases List.mem_cons.1 hq with e | e;exact Nat.le_of_eq e.symm;cases e)));have HM2:=(show Hid _ from(HM.out.still k1).still k2);clear hX hY k1 k2;have c0:w2.cell? ⟨b,0,none⟩=some (.slice M.hx.ao M.V.length M.hx.cap):=by rw[aa HM2.out.blk];rfl
 have fb:=ak HM2.out.blk;have bz:=ae HM2.out.blk;have hOw:=HM2.out.ownX;have HFar:Hid (b∉M.hx.blk.toList):=fun hq=>HM2.out.sep.far (0,0) (1,0) (bA (by decide)) b (by rw[HM2.out.w0];exact List.mem_singleton.2 rfl) (by rw[HM2.out.x];exact hq)
 obtain⟨J,HJ⟩:∃J,Hid (J=fe (fe I (6,M.V.length) (Kd W.heap.size [])) (7,M.V.length) (JX w1.heap.size ⟨none,0⟩ [])):=⟨_,rfl⟩
 rw[<-HJ.out]at S2;have hJ0:Hid (J (0,0)=pK b 42 M.cells):=by show _=_;rw[HJ.out,aq _ _ (bA (by decide)),aq _ _ (bA (by decide))];exact HM.out.w0
 have hJ1:Hid (J (1,0)=dd M.hx (j7 46 (M.V.map (·.1)))):=by show _=_;rw[HJ.out,aq _ _ (bA (by decide)),aq _ _ (bA (by decide))];exact HM.out.x
 have hJ2:Hid (J (2,0)=dd M.hm (j7 47 (M.V.map (·.2.1)))):=by show _=_;rw[HJ.out,aq _ _ (bA (by decide)),aq _ _ (bA (by decide))];exact HM.out.m
 obtain⟨X,HXe⟩:∃X,Hid (W.heap.size=X):=⟨_,rfl⟩
 obtain⟨Y,HYe⟩:∃Y,Hid (w1.heap.size=Y):=⟨_,rfl⟩
 rw[HXe.out,HYe.out]at HJ;rw[HXe.out,HYe.out]
 go_upto_region 7 with (at_builtin;refine dc w2 rfl (.tmp 29) (.tmp 31) 31 rfl iX (.pointer none) 8 M.hx (j7 46 (M.V.map (·.1))) [IP X] Tryz.underlying31 hiX hzX0 hzX1 hzX2 rfl Nat.one_pos (by rw[HXn.out];simp[Act.eval]) hOw hPx.out (by omega) (by simp[Act.eval]) rfl (by simp[IP,Value.oneCell']) ?_;intro h5 w5 hw5 hg5;rw[vF]at hw5;have p5:=hg5.kept.get HM2.out.blk HFar.out;have f5:=ak p5;have c5:w5.cell? ⟨b,0,none⟩=some (.slice M.hx.ao M.V.length M.hx.cap):=(by rw[aa p5];rfl);have z5:=ae p5)
 rw[HXn.out];have S5:=(show Hid _ from S2.out.grown hJ0.out (bA (by decide)) hJ1.out hg5 hw5 0 (.slice h5.ao (M.V.length+1) h5.cap));obtain⟨w6,Hw6⟩:∃w6,Hid (w5.setCell ⟨b,0,none⟩ (.slice h5.ao (M.V.length+1) h5.cap)=w6):=⟨_,rfl⟩
 rw[Hw6.out]at S5 ⊢;have e60:=(show Hid _ from bS (fe J (1,0) (dd h5 (j7 46 (M.V.map (·.1)++[X])))) (0,0) (pK b 42 (M.cells.set 0 (.slice h5.ao (M.V.length+1) h5.cap))));obtain⟨J6,HJ6⟩:∃J6,Hid (fe (fe J (1,0) (dd h5 (j7 46 (M.V.map (·.1)++[X])))) (0,0) (pK b 42 (M.cells.set 0 (.slice h5.ao (M.V.length+1) h5.cap)))=J6):=⟨_,rfl⟩
 have e62:Hid (J6 (2,0)=dd M.hm (j7 47 (M.V.map (·.2.1)))):=by show _=_;rw[<-HJ6.out,aq _ _ (bA (by decide)),aq _ _ (bA (by decide))];exact hJ2.out
 rw[HJ6.out]at S5 e60
 have b6:w6.heap[b]?=some (.cells (M.cells.set 0 (.slice h5.ao (M.V.length+1) h5.cap)).toArray 42 (0,0)):=by
  have:=S5.out.all (0,0);rw[e60.out]at this;exact this
 have HB6:=(show Hid _ from b6)
 have hOw6:aA w6 M.hm (j7 47 (M.V.map (·.2.1))):=by
  have:=S5.out.all (2,0);rw[e62.out]at this;exact this
 have HFar6:Hid (b∉M.hm.blk.toList):=fun hq=>S5.out.far (0,0) (2,0) (bA (by decide)) b (by rw[e60.out];exact List.mem_singleton.2 rfl) (by rw[e62.out];exact hq)
 clear p5 f5 c5 z5 hw5 hg5 c0 fb bz hOw;have c1:w6.cell? ⟨b,1,none⟩=some (.slice M.hm.ao M.V.length M.hm.cap):=by rw[aa b6];rfl
 have fb:=ak b6;have bz:=ae b6;clear b6;go_wp2_with (at_builtin;refine dc w6 rfl (.tmp 39) (.tmp 41) 32 rfl iM (.pointer none) 8 M.hm (j7 47 (M.V.map (·.2.1))) [IP Y] Tryz.underlying32 hiM hzM0 hzM1 hzM2 rfl Nat.one_pos (by rw[HMn.out];simp[Act.eval]) hOw6 hPm.out (by omega) (by simp[Act.eval]) rfl (by simp[IP,Value.oneCell']) ?_;intro h7 w7 hw7 hg7;rw[vF]at hw7;have p7:=hg7.kept.get HB6.out HFar6.out;have f7:=ak p7;have c7:w7.cell? ⟨b,1,none⟩=some (.slice M.hm.ao M.V.length M.hm.cap):=(by rw[aa p7];rfl);have z7:=ae p7;rw[HMn.out]);go_ret;have S7:=S5.out.grown e60.out (bA (by decide)) e62.out hg7 hw7 1 (.slice h7.ao (M.V.length+1) h7.cap);rw[<-HJ6.out]at S7;exact⟨rfl,HM.out.addV HJ.out S7⟩
theorem G1:(Tryz.prog.info? 33).map (fun i=>(i.zero,i.size,i.bytes))=some (some (.slice none 0 0),1,24):=by kernel_rfl
theorem oq(L:List (Option Nat×Fs))(x:Option Nat×Fs):(⟨(fP L).e,(fP L).size,(fP L).n+1,(fP L).xs++[xp x]⟩:dK)=fP (L++[x]):=by
 simp[fP]
theorem aA.srcO{w:World}{h:Hd}{fs:Fs}(o:aA w h (b8 fs)):j6 w h.ao fs:=by
 intro k hk;obtain⟨g,e,hg,c0,c1⟩:=o.srcFi.2 k hk;exact⟨g,0,e,hg,by rw[Nat.zero_add];exact c0,by rw[Nat.zero_add];exact c1⟩
theorem bM.addL{w w7:World}{b N:Nat}{a c:Option Nat}{fs:Fs}{I J:Nat×Nat->It}{M:Mc}{h5 h7:Hd}(h:bM w b I M N)(hf:kt fs)(hl:fs.length<=N+1)
  (hJ:J=fe (fe (fe I (8,M.L.length) (rL a fs)) (4,0) (dd h5 (fP (M.L.map (fun l=>(l.1,l.2.2))++[(a,fs)])))) (0,0) (pK b 42 (M.cells.set 3 (.slice h5.ao (M.L.length+1) h5.cap))))
  (s7:nD w7 (fe (fe (fe J (9,M.L.length) (rL c fs)) (5,0) (dd h7 (fP (M.L.map (fun l=>(l.2.1,l.2.2))++[(c,fs)])))) (0,0) (pK b 42 ((M.cells.set 3 (.slice h5.ao (M.L.length+1) h5.cap)).set 4 (.slice h7.ao (M.L.length+1) h7.cap))))) :
  ∃I' M',bM w7 b I' M' (N+1)/\I' (10,0)=I (10,0):=by
 refine⟨_,{ M with hl:=h5,hc:=h7,L:=M.L++[(a,c,fs)] },⟨s7,?_,?_,?_,?_,?_,?_,?_,?_,?_,?_,?_⟩,?_⟩
 ·rw[bS];unfold Mc.cells;rw[List.length_append];rfl
 ·subst hJ;simp only[fe];exact h.x
 ·subst hJ;simp only[fe];exact h.m
 ·subst hJ;simp only[fe];exact h.r
 ·subst hJ;rw[aq _ _ (bA (by decide)),aq _ _ (bA (by decide)),aq _ _ (bA (by decide)),aq _ _ (bA (by decide)),bS,List.map_append];rfl
 ·rw[aq _ _ (bA (by decide)),bS,List.map_append];rfl
 ·intro i x m fs hi
  subst hJ;simp only[fe];exact h.v i x m fs hi
 ·intro i x m fs' hi
  rw[aq _ _ (bA (by decide)),aq _ _ (bA (by decide)),aq _ _ (bA (by decide)),aq _ _ (bA (by decide)),aq _ _ (bA (by decide))];replace hi:(M.L++[(a,c,fs)])[i]?=some (x,m,fs'):=hi;subst hJ;rw[aq _ _ (bA (by decide)),aq _ _ (bA (by decide))]
  by_cases e:i<M.L.length
  ·rw[List.getElem?_append_left e]at hi
   rw[aq _ _ (tC (by omega)),aq _ _ (tC (by omega)),aq _ _ (bA (by decide)),aq _ _ (bA (by decide)),aq _ _ (bA (by decide))];exact h.more.l i x m fs' hi
  ·have e2:i=M.L.length:=by
    have:=(List.getElem?_eq_some_iff.1 hi).1;rw[List.length_append]at this;have:i<M.L.length+1:=this;omega
   subst e2;rw[List.getElem?_append_right (Nat.le_refl _),Nat.sub_self]at hi
   cases hi
   rw[bS,bS];exact⟨rfl,rfl,hf,hl⟩
 ·exact h.fit
 ·refine⟨h.more.len.1,h.more.len.2.1,?_⟩
  have:=h.len.2.2
  show(M.L++[(a,c,fs)]).length<=_
  rw[List.length_append];show _+1<=_;omega
 ·exact h.rng
 ·subst hJ;simp only[fe];rfl
theorem nD.rowAt{w:World}{I:Nat×Nat->It}{b T:Nat}{c:List Value}{k:Nat×Nat}{hd:Hd}{r:dK}(s:nD w I)(e0:I (0,0)=pK b T c)(hk:k≠(0,0))(e:I k=dd hd r):w.heap[b]?=some (.cells c.toArray T (0,0))/\aA w hd r/\b∉hd.blk.toList:=by
 refine⟨?_,?_,fun hq=>s.far (0,0) k (Ne.symm hk) b (by rw[e0];exact List.mem_singleton.2 rfl) (by rw[e];exact hq)⟩
 ·have:=s.all (0,0);rw[e0]at this;exact this
 ·have:=s.all k;rw[e]at this;exact this
set_option maxRecDepth 100000 in
theorem Ks(b N:Nat)(I:Nat×Nat->It)(M:Mc)(A C D:Int)(s t:ByteArray)(w:World)(h:bM w b I M N)(hN:N<=1073741824) :
  Calls Tryz.prog 11 #[.pointer (some ⟨b,0,none⟩),.agg #[.int .i64 5,.int .i64 A,.int .i64 C,.int .i64 D,.string s,.string t]] w fun e w'=>gu b I N true e w':=by
 obtain⟨W,HW⟩:∃W,Hid (w.alloc (.cells #[.int .i64 5,.int .i64 A,.int .i64 C,.int .i64 D,.string s,.string t] 28)=W):=⟨_,rfl⟩
 obtain⟨hM,hB,hbw,-⟩:=h.boxed 5 A C D s t W HW.out;obtain⟨o0,-⟩:=ee hB;have oz:=ae hB;obtain⟨iX,hiX,hzX0,hzX1,hzX2⟩:=info_parts G1;have HM:Hid (bM W b I M N):=hM;have hPx:Hid ((fP (M.L.map (fun l=>(l.1,l.2.2)))).n<=4294967296):=by show(M.L.map _).length<=_;rw[List.length_map];have:=h.len.2.2;omega
 have hPm:Hid ((fP (M.L.map (fun l=>(l.2.1,l.2.2)))).n<=4294967296):=by show(M.L.map _).length<=_;rw[List.length_map];have:=h.len.2.2;omega
 have HXn:Hid ((fP (M.L.map (fun l=>(l.1,l.2.2)))).n=M.L.length):=List.length_map _;have HMn:Hid ((fP (M.L.map (fun l=>(l.2.1,l.2.2)))).n=M.L.length):=List.length_map _;have S1:Hid (nD W (fe I (8,M.L.length) (rL none []))):=hM.sep.put _ _ (ab.refl _ _) ⟨fun _=>rfl,fun b e=>by cases e⟩ (fun q hq=>by cases hq);obtain⟨J,HJ⟩:∃J,Hid (J=fe I (8,M.L.length) (rL none [])):=⟨_,rfl⟩
 rw[<-HJ.out]at S1;have hJ0:Hid (J (0,0)=pK b 42 M.cells):=by show _=_;rw[HJ.out,aq _ _ (bA (by decide))];exact hM.w0
 have hJ4:Hid (J (4,0)=dd M.hl (fP (M.L.map (fun l=>(l.1,l.2.2))))):=by show _=_;rw[HJ.out,aq _ _ (bA (by decide))];exact hM.ls
 have hJ5:Hid (J (5,0)=dd M.hc (fP (M.L.map (fun l=>(l.2.1,l.2.2))))):=by show _=_;rw[HJ.out,aq _ _ (bA (by decide))];exact hM.lw
 obtain⟨p1,hOw,far1⟩:=S1.out.rowAt hJ0.out (bA (by decide)) hJ4.out;have HP1:Hid (W.heap[b]?=some (.cells M.cells.toArray 42 (0,0))/\b∉M.hl.blk.toList):=⟨p1,far1⟩;have c0:W.cell? ⟨b,3,none⟩=some (.slice M.hl.ao M.L.length M.hl.cap):=by rw[aa p1];rfl
 have fb:=ak p1;have bz:=ae p1;clear h hM hB p1 far1;go_enter Tryz.func11,Tryz.ntmps11
 go_upto_region 1 with fail
 rw[HW.out]
 go_upto_region 22 with (at_builtin;refine dc W rfl (.tmp 105) (.tmp 106) 34 rfl iX (.slice none 0 0) 24 M.hl (fP (M.L.map (fun l=>(l.1,l.2.2)))) [xp (none,[])] Tryz.underlying34 hiX hzX0 hzX1 hzX2 rfl Nat.one_pos (by rw[HXn.out];simp[Act.eval]) hOw hPx.out (by omega) (by simp[Act.eval]) rfl (by simp[xp,Value.oneCell']) ?_;intro h5 w5 hw5 hg5;rw[oq]at hw5;have p5:=hg5.kept.get HP1.out.1 HP1.out.2;have f5:=ak p5;have c5:w5.cell? ⟨b,3,none⟩=some (.slice M.hl.ao M.L.length M.hl.cap):=(by rw[aa p5];rfl);have z5:=ae p5)
 rw[HXn.out];have S5:=(show Hid _ from S1.out.grown hJ0.out (bA (by decide)) hJ4.out hg5 hw5 3 (.slice h5.ao (M.L.length+1) h5.cap));obtain⟨w6,Hw6⟩:∃w6,Hid (w5.setCell ⟨b,3,none⟩ (.slice h5.ao (M.L.length+1) h5.cap)=w6):=⟨_,rfl⟩
 rw[Hw6.out]at S5 ⊢;obtain⟨J6,hJ6⟩:∃J6,J6=fe (fe J (4,0) (dd h5 (fP (M.L.map (fun l=>(l.1,l.2.2))++[(none,[])])))) (0,0) (pK b 42 (M.cells.set 3 (.slice h5.ao (M.L.length+1) h5.cap))):=⟨_,rfl⟩
 have HJ6:=(show Hid _ from hJ6);clear hJ6;rw[<-HJ6.out]at S5;have S6:Hid (nD w6 (fe J6 (9,M.L.length) (rL none []))):=S5.out.put _ _ (ab.refl _ _) ⟨fun _=>rfl,fun b e=>by cases e⟩ (fun q hq=>by cases hq);have e60:Hid (fe J6 (9,M.L.length) (rL none []) (0,0)=pK b 42 (M.cells.set 3 (.slice h5.ao (M.L.length+1) h5.cap))):=by show _=_;rw[aq _ _ (bA (by decide)),HJ6.out,bS]
 have e65:Hid (fe J6 (9,M.L.length) (rL none []) (5,0)=dd M.hc (fP (M.L.map (fun l=>(l.2.1,l.2.2))))):=by show _=_;rw[aq _ _ (bA (by decide)),HJ6.out,aq _ _ (bA (by decide)),aq _ _ (bA (by decide))];exact hJ5.out
 obtain⟨b6,hOw6,far6⟩:=S6.out.rowAt e60.out (bA (by decide)) e65.out;have HP6:Hid (w6.heap[b]?=some (.cells (M.cells.set 3 (.slice h5.ao (M.L.length+1) h5.cap)).toArray 42 (0,0))/\b∉M.hc.blk.toList):=⟨b6,far6⟩;clear p5 f5 c5 z5 hw5 hg5 c0 fb bz hOw;have c1:w6.cell? ⟨b,4,none⟩=some (.slice M.hc.ao M.L.length M.hc.cap):=by rw[aa b6];rfl
 have fb:=ak b6;have bz:=ae b6;clear b6 far6;go_wp2_with (at_builtin;refine dc w6 rfl (.tmp 115) (.tmp 116) 34 rfl iX (.slice none 0 0) 24 M.hc (fP (M.L.map (fun l=>(l.2.1,l.2.2)))) [xp (none,[])] Tryz.underlying34 hiX hzX0 hzX1 hzX2 rfl Nat.one_pos (by rw[HMn.out];simp[Act.eval]) hOw6 hPm.out (by omega) (by simp[Act.eval]) rfl (by simp[xp,Value.oneCell']) ?_;intro h7 w7 hw7 hg7;rw[oq]at hw7;have p7:=hg7.kept.get HP6.out.1 HP6.out.2;have f7:=ak p7;have c7:w7.cell? ⟨b,4,none⟩=some (.slice M.hc.ao M.L.length M.hc.cap):=(by rw[aa p7];rfl);have z7:=ae p7;rw[HMn.out]);go_ret;have S7:=S6.out.grown e60.out (bA (by decide)) e65.out hg7 hw7 4 (.slice h7.ao (M.L.length+1) h7.cap);exact⟨rfl,HM.out.addL (a:=none) (c:=none) (fs:=[]) (fun j=>⟨by show(0:Nat)<=_;omega,by show(0:Nat)<=_;omega⟩) (Nat.zero_le _) (by rw[HJ6.out,HJ.out]) S7⟩
set_option maxRecDepth 100000 in
theorem Kx(b N:Nat)(I:Nat×Nat->It)(M:Mc)(A C D:Int)(s t:ByteArray)(w:World)(h:bM w b I M N)(hN:N<=1073741824) :
  Calls Tryz.prog 11 #[.pointer (some ⟨b,0,none⟩),.agg #[.int .i64 4,.int .i64 A,.int .i64 C,.int .i64 D,.string s,.string t]] w fun e w'=>gu b I N true e w':=by
 obtain⟨W,HW⟩:∃W,Hid (w.alloc (.cells #[.int .i64 4,.int .i64 A,.int .i64 C,.int .i64 D,.string s,.string t] 28)=W):=⟨_,rfl⟩
 obtain⟨hM,hB,hbw,-⟩:=h.boxed 4 A C D s t W HW.out;obtain⟨o0,-⟩:=ee hB;have oz:=ae hB;obtain⟨iX,hiX,hzX0,hzX1,hzX2⟩:=info_parts G1;have HM:Hid (bM W b I M N):=hM;have HRL:Hid (M.reg.length<=N):=h.len.2.1;have hPx:Hid ((fP (M.L.map (fun l=>(l.1,l.2.2)))).n<=4294967296):=by show(M.L.map _).length<=_;rw[List.length_map];have:=h.len.2.2;omega
 have hPm:Hid ((fP (M.L.map (fun l=>(l.2.1,l.2.2)))).n<=4294967296):=by show(M.L.map _).length<=_;rw[List.length_map];have:=h.len.2.2;omega
 have HXn:Hid ((fP (M.L.map (fun l=>(l.1,l.2.2)))).n=M.L.length):=List.length_map _;have HMn:Hid ((fP (M.L.map (fun l=>(l.2.1,l.2.2)))).n=M.L.length):=List.length_map _;have HCF:Hid (Calls Tryz.prog 29 #[.slice M.hr.ao M.reg.length M.hr.cap] W _):=iH M.hr.ao M.hr.cap M.reg W hM.ownR.srcO (by have:=HRL.out;omega);have c2:W.cell? ⟨b,2,none⟩=some (.slice M.hr.ao M.reg.length M.hr.cap):=by rw[aa hM.blk];rfl
 have bz:=ae hM.blk;clear h hM hB;go_enter Tryz.func11,Tryz.ntmps11
 go_upto_region 1 with fail
 rw[HW.out]
 go_upto_region 14 with (go_at_call 29;refine Calls.mono HCF.out ?_;rintro e w1 ⟨rfl,hb1,k1⟩)
 have S1:Hid (nD w1 (fe I (8,M.L.length) (rL (some W.heap.size) M.reg))):=HM.out.sep.put _ _ (k1.mono (by simp)) ⟨(fun e=>by cases e),(fun q e=>by cases e;exact hb1)⟩ (fun q hq=>Or.inr (by rw[List.mem_singleton.1 hq];exact Nat.le_refl _));obtain⟨B1,HB1⟩:∃B1,Hid (W.heap.size=B1):=⟨_,rfl⟩
 rw[HB1.out]at S1 ⊢;obtain⟨J,HJ⟩:∃J,Hid (J=fe I (8,M.L.length) (rL (some B1) M.reg)):=⟨_,rfl⟩
 rw[<-HJ.out]at S1;have hJ0:Hid (J (0,0)=pK b 42 M.cells):=by show _=_;rw[HJ.out,aq _ _ (bA (by decide))];exact HM.out.w0
 have hJ3:Hid (J (3,0)=dd M.hr (b8 M.reg)):=by show _=_;rw[HJ.out,aq _ _ (bA (by decide))];exact HM.out.r
 have hJ4:Hid (J (4,0)=dd M.hl (fP (M.L.map (fun l=>(l.1,l.2.2))))):=by show _=_;rw[HJ.out,aq _ _ (bA (by decide))];exact HM.out.ls
 have hJ5:Hid (J (5,0)=dd M.hc (fP (M.L.map (fun l=>(l.2.1,l.2.2))))):=by show _=_;rw[HJ.out,aq _ _ (bA (by decide))];exact HM.out.lw
 obtain⟨p1,hOw,far1⟩:=S1.out.rowAt hJ0.out (bA (by decide)) hJ4.out;have HP1:Hid (w1.heap[b]?=some (.cells M.cells.toArray 42 (0,0))/\b∉M.hl.blk.toList):=⟨p1,far1⟩;have c0:w1.cell? ⟨b,3,none⟩=some (.slice M.hl.ao M.L.length M.hl.cap):=by rw[aa p1];rfl
 have fb:=ak p1;clear bz;have bz:=ae p1;clear p1 far1 c2 k1 hb1
 go_upto_region 16 with (at_builtin;refine dc w1 rfl (.tmp 76) (.tmp 78) 34 rfl iX (.slice none 0 0) 24 M.hl (fP (M.L.map (fun l=>(l.1,l.2.2)))) [xp (some B1,M.reg)] Tryz.underlying34 hiX hzX0 hzX1 hzX2 rfl Nat.one_pos (by rw[HXn.out];simp[Act.eval]) hOw hPx.out (by omega) (by simp[Act.eval]) rfl (by simp[xp,Value.oneCell']) ?_;intro h5 w5 hw5 hg5;rw[oq]at hw5;have p5:=hg5.kept.get HP1.out.1 HP1.out.2;have f5:=ak p5;have c5:w5.cell? ⟨b,3,none⟩=some (.slice M.hl.ao M.L.length M.hl.cap):=(by rw[aa p5];rfl);have z5:=ae p5)
 rw[HXn.out];have S5:=(show Hid _ from S1.out.grown hJ0.out (bA (by decide)) hJ4.out hg5 hw5 3 (.slice h5.ao (M.L.length+1) h5.cap));obtain⟨w6,Hw6⟩:∃w6,Hid (w5.setCell ⟨b,3,none⟩ (.slice h5.ao (M.L.length+1) h5.cap)=w6):=⟨_,rfl⟩
 rw[Hw6.out]at S5 ⊢;obtain⟨J6,hJ6⟩:∃J6,J6=fe (fe J (4,0) (dd h5 (fP (M.L.map (fun l=>(l.1,l.2.2))++[(some B1,M.reg)])))) (0,0) (pK b 42 (M.cells.set 3 (.slice h5.ao (M.L.length+1) h5.cap))):=⟨_,rfl⟩
 have HJ6:=(show Hid _ from hJ6);clear hJ6;rw[<-HJ6.out]at S5;have e63:Hid (J6 (3,0)=dd M.hr (b8 M.reg)):=by show _=_;rw[HJ6.out,aq _ _ (bA (by decide)),aq _ _ (bA (by decide))];exact hJ3.out
 have e60':Hid (J6 (0,0)=pK b 42 (M.cells.set 3 (.slice h5.ao (M.L.length+1) h5.cap))):=by show _=_;rw[HJ6.out,bS]
 obtain⟨b6,hOwR,-⟩:=S5.out.rowAt e60'.out (bA (by decide)) e63.out;have HCF2:Hid (Calls Tryz.prog 29 #[.slice M.hr.ao M.reg.length M.hr.cap] w6 _):=iH M.hr.ao M.hr.cap M.reg w6 hOwR.srcO (by have:=HRL.out;omega);clear p5 f5 c5 z5 hw5 hg5 c0 fb bz hOw hOwR;have c2:w6.cell? ⟨b,2,none⟩=some (.slice M.hr.ao M.reg.length M.hr.cap):=by rw[aa b6];rfl
 have bz:=ae b6;clear b6
 go_upto_region 17 with (go_at_call 29;refine Calls.mono HCF2.out ?_;rintro e w8 ⟨rfl,hb2,k2⟩)
 have S6:Hid (nD w8 (fe J6 (9,M.L.length) (rL (some w6.heap.size) M.reg))):=S5.out.put _ _ (k2.mono (by simp)) ⟨(fun e=>by cases e),(fun q e=>by cases e;exact hb2)⟩ (fun q hq=>Or.inr (by rw[List.mem_singleton.1 hq];exact Nat.le_refl _));obtain⟨B2,HB2⟩:∃B2,Hid (w6.heap.size=B2):=⟨_,rfl⟩
 rw[HB2.out]at S6 ⊢;clear c2 bz k2 hb2;have e60:Hid (fe J6 (9,M.L.length) (rL (some B2) M.reg) (0,0)=pK b 42 (M.cells.set 3 (.slice h5.ao (M.L.length+1) h5.cap))):=by show _=_;rw[aq _ _ (bA (by decide))];exact e60'.out
 have e65:Hid (fe J6 (9,M.L.length) (rL (some B2) M.reg) (5,0)=dd M.hc (fP (M.L.map (fun l=>(l.2.1,l.2.2))))):=by show _=_;rw[aq _ _ (bA (by decide)),HJ6.out,aq _ _ (bA (by decide)),aq _ _ (bA (by decide))];exact hJ5.out
 obtain⟨b6,hOw6,far6⟩:=S6.out.rowAt e60.out (bA (by decide)) e65.out;have HP6:Hid (w8.heap[b]?=some (.cells (M.cells.set 3 (.slice h5.ao (M.L.length+1) h5.cap)).toArray 42 (0,0))/\b∉M.hc.blk.toList):=⟨b6,far6⟩;have c1:w8.cell? ⟨b,4,none⟩=some (.slice M.hc.ao M.L.length M.hc.cap):=by rw[aa b6];rfl
 have fb:=ak b6;have bz:=ae b6;clear b6 far6;go_wp2_with (at_builtin;refine dc w8 rfl (.tmp 92) (.tmp 94) 34 rfl iX (.slice none 0 0) 24 M.hc (fP (M.L.map (fun l=>(l.2.1,l.2.2)))) [xp (some B2,M.reg)] Tryz.underlying34 hiX hzX0 hzX1 hzX2 rfl Nat.one_pos (by rw[HMn.out];simp[Act.eval]) hOw6 hPm.out (by omega) (by simp[Act.eval]) rfl (by simp[xp,Value.oneCell']) ?_;intro h7 w7 hw7 hg7;rw[oq]at hw7;have p7:=hg7.kept.get HP6.out.1 HP6.out.2;have f7:=ak p7;have c7:w7.cell? ⟨b,4,none⟩=some (.slice M.hc.ao M.L.length M.hc.cap):=(by rw[aa p7];rfl);have z7:=ae p7;rw[HMn.out]);go_ret;have S7:=S6.out.grown e60.out (bA (by decide)) e65.out hg7 hw7 4 (.slice h7.ao (M.L.length+1) h7.cap);exact⟨rfl,HM.out.addL (a:=some B1) (c:=some B2) (fs:=M.reg) HM.out.fit (by have:=HRL.out;omega) (by rw[HJ6.out,HJ.out]) S7⟩
end Go.Proofs.YtpddjjabfbfifaaGreat

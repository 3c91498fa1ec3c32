import Derived.Test.YtpddjjabfbfifaaGreatG32
namespace Go.Proofs.YtpddjjabfbfifaaGreat
open Go.RowKit
set_option maxHeartbeats 40000000
def kc(nm d:ByteArray)(i:pF):Tk:=⟨i.text,i.rule,nm,aL d i.pos,aW d i.pos⟩
def JF(nm d:ByteArray):Nat->Nat->List Tk
  | 0,_=>[]
  | f+1,k=>kc nm d (bi d k).1 :: (if aG (bi d k).1=true then JF nm d f (bi d k).2 else [])
def li(nm d:ByteArray)(k:Nat):List Tk:=JF nm d (d.size-k+1) k
theorem Gv(nm d:ByteArray)(f k:Nat)(hk:k<=d.size)(hf:d.size-k+1<=f):JF nm d f k=li nm d k:=by
  unfold li
  suffices h:∀f g k,k<=d.size->d.size-k+1<=f->d.size-k+1<=g->JF nm d f k=JF nm d g k from h _ _ _ hk hf (Nat.le_refl _)
  clear hf hk f k;intro f
  induction f with
  | zero=>intro g k _ h;omega
  | succ f ih =>
    intro g k hk hf hg
    cases g with
    | zero=>omega
    | succ g =>
      rw[JF,JF]
      split
      · next h =>
        have hl:=fq d k hk;have hl2:=hl.2.2 h;rw[ih g _ hl.2.1 (by omega) (by omega)]
      · rfl
theorem jY(nm d:ByteArray)(k:Nat)(hk:k<=d.size)(h:aG (bi d k).1=true):li nm d k=kc nm d (bi d k).1 :: li nm d (bi d k).2:=by
  have hl:=fq d k hk;have hl2:=hl.2.2 h
  conv=>lhs;unfold li
  rw[JF,if_pos h,Gv nm d _ _ hl.2.1 (by omega)]
theorem iV(nm d:ByteArray)(k:Nat)(h:aG (bi d k).1=false):li nm d k=[kc nm d (bi d k).1]:=by
  unfold li;rw[JF,if_neg (by simp[h])]
theorem Bp(d:ByteArray)(k:Nat)(h:k<d.size)(hb:cC (aF d k)=true):bi d k=bi d (k+1):=by
  unfold bi;rw[CS d k h hb]
theorem rR(nm d:ByteArray)(k:Nat)(h:k<d.size)(hb:cC (aF d k)=true):li nm d k=li nm d (k+1):=by
  have e:=Bp d k h hb
  cases hw:aG (bi d k).1
  · rw[iV nm d k hw,iV nm d (k+1) (by rw[<-e];exact hw),e]
  · rw[jY nm d k (by omega) hw,jY nm d (k+1) (by omega) (by rw[<-e];exact hw),e]
theorem zI(d:ByteArray)(n:Nat):∀a,(∀j,a<=j->j<a+n->j<d.size/\cC (aF d j)=false/\eN (aF d j)=true)->ci d a=ci d (a+n):=by
  induction n with
  | zero=>intro a _;rfl
  | succ n ih =>
    intro a h;have h0:=h a (by omega) (by omega);rw[CT d a h0.1 h0.2.1 h0.2.2,ih (a+1) (fun j h1 h2=>h j (by omega) (by omega))]
    congr 1;omega
theorem At{n:Int}(h:oA n=false)(hb:cC n=false):eN n=true:=by
  unfold oA at h;rw[hb]at h;simpa using h
theorem yP(d:ByteArray)(a z:Nat)(haz:a<z)(hz:z<=d.size)(hj:∀j,a<=j->j<z->cC (aF d j)=false/\eN (aF d j)=true)(he:z<d.size->cC (aF d z)=true):bi d a=(⟨d.extract a z,0,false,a⟩,z):=by
  have hw:=zI d (z-a) a (fun j h1 h2=>⟨by omega,hj j h1 (by omega)⟩);rw[show a+(z-a)=z by omega]at hw;refine vN d a a z (pQ d a (fun h=>?_)).symm hw.symm (fun h=>?_) haz
  · rw[(hj a (Nat.le_refl _) haz).1]at h;simp at h
  · rw[he h.1]at h;simp at h
theorem me(d:ByteArray)(i:Nat):∀j,cJ d i<=j->j<i->cC (aF d j)=false:=by
  induction i with
  | zero=>intro j _ h;omega
  | succ i ih =>
    intro j h1 h2;rw[cJ]at h1
    split at h1
    · omega
    · next hb =>
      by_cases e:j=i
      · rw[e];simpa using hb
      · exact ih j h1 (by omega)
theorem tq(nm d:ByteArray)(i:Nat)(hi:i<=d.size)(hb:∀j,j<i->oA (aF d j)=false):li nm d 0=h9 nm d i++li nm d (cJ d i):=by
  induction i with
  | zero=>rfl
  | succ i ih =>
    have ih:=ih (by omega) (fun j hj=>hb j (by omega));rw[h9,cJ]
    cases hbl:cC (aF d i)
    · rw[if_neg (by simp),if_neg (by simp)];exact ih
    · rw[if_pos rfl,if_pos rfl]
      have hl:=mu d i;unfold g7
      split
      · next e =>
        rw[ih,e,rR nm d i (by omega) hbl]
      · next e =>
        have hr:=yP d (cJ d i) i (by omega) (by omega) (fun j h1 h2=>⟨me d i j h1 h2,At (hb j (by omega)) (me d i j h1 h2)⟩) (fun _=>hbl);rw[ih,jY nm d (cJ d i) (by omega) (by rw[hr];rfl),hr,<-rR nm d i (by omega) hbl];simp[kc,kL]
theorem Bo(nm d:ByteArray):fR nm d=li nm d 0:=by
  unfold fR
  cases hf:iE d with
  | some i =>
    unfold iE at hf;rw[List.find?_range_eq_some]at hf;obtain⟨h1,h2,h3⟩:=hf;have h2:=List.mem_range.1 h2;have hb:∀j,j<i->oA (aF d j)=false:=fun j hj=>by simpa using h3 j hj
    have hl:=mu d i;have hin:∀j,cJ d i<=j->j<cJ d i+(i-cJ d i)->j<d.size/\cC (aF d j)=false/\eN (aF d j)=true:=fun j h1 h2=>⟨by omega,me d i j h1 (by omega),At (hb j (by omega)) (me d i j h1 (by omega))⟩
    have hp:eN (aF d i)=false/\cC (aF d i)=false:=by
      unfold oA at h1;simpa using h1
    have hw:=zI d (i-cJ d i) (cJ d i) hin;rw[show cJ d i+(i-cJ d i)=i by omega]at hw
    have hsk:cJ d i=skip d (cJ d i):=(pQ d _ (fun h=>by
      by_cases e:cJ d i=i
      · rw[e,hp.2]at h;simp at h
      · rw[(hin (cJ d i) (Nat.le_refl _) (by omega)).2.1]at h;simp at h)).symm
    have hr:=ze d (cJ d i) (cJ d i) i hsk hw.symm h2 hp.2 hp.1;simp only;rw[tq nm d i (by omega) hb,iV nm d (cJ d i) (by rw[hr];rfl),hr];simp[kc,kL]
  | none =>
    have hb:∀j,j<d.size->oA (aF d j)=false:=fun j hj=>by
      unfold iE at hf;rw[List.find?_eq_none]at hf;simpa using hf j (List.mem_range.2 hj)
    have hl:=mu d d.size;have hend:bi d d.size=(⟨⟨#[]⟩,0,true,d.size⟩,d.size):=yp d d.size d.size d.size (pQ d _ (fun h=>by omega)).symm rfl (fun h=>by omega) (Nat.le_refl _);simp only;rw[tq nm d d.size (Nat.le_refl _) hb];unfold g7
    split
    · next e =>
      rw[e,iV nm d d.size (by rw[hend];rfl),hend];simp[kc,kL]
    · next e =>
      have hr:=yP d (cJ d d.size) d.size (by omega) (Nat.le_refl _) (fun j h1 h2=>⟨me d _ j h1 h2,At (hb j h2) (me d _ j h1 h2)⟩) (fun h=>by omega);rw[jY nm d (cJ d d.size) hl (by rw[hr];rfl),hr,iV nm d d.size (by rw[hend];rfl),hend];simp[kc,kL]
def Jy(nm d:ByteArray):Nat->Nat->List Tk
  | 0,_=>[]
  | f+1,k=>kc nm d (av d k).1 :: (if aG (av d k).1=true then Jy nm d f (av d k).2 else [])
def kC(nm d:ByteArray)(k:Nat):List Tk:=Jy nm d (d.size-k+1) k
theorem Hj(nm d:ByteArray)(f k:Nat)(hk:k<=d.size)(hf:d.size-k+1<=f):Jy nm d f k=kC nm d k:=by
  unfold kC
  suffices h:∀f g k,k<=d.size->d.size-k+1<=f->d.size-k+1<=g->Jy nm d f k=Jy nm d g k from h _ _ _ hk hf (Nat.le_refl _)
  clear hf hk f k;intro f
  induction f with
  | zero=>intro g k _ h;omega
  | succ f ih =>
    intro g k hk hf hg
    cases g with
    | zero=>omega
    | succ g =>
      rw[Jy,Jy]
      split
      · next h =>
        have hl:=eM d k hk;have hl2:=hl.2.2 h;rw[ih g _ hl.2.1 (by omega) (by omega)]
      · rfl
theorem i6(nm d:ByteArray)(k:Nat)(hk:k<=d.size)(h:aG (av d k).1=true):kC nm d k=kc nm d (av d k).1 :: kC nm d (av d k).2:=by
  have hl:=eM d k hk;have hl2:=hl.2.2 h
  conv=>lhs;unfold kC
  rw[Jy,if_pos h,Hj nm d _ _ hl.2.1 (by omega)]
theorem iW(nm d:ByteArray)(k:Nat)(h:aG (av d k).1=false):kC nm d k=[kc nm d (av d k).1]:=by
  unfold kC;rw[Jy,if_neg (by simp[h])]
theorem AG(nm d:ByteArray)(k j:Nat)(hk:k<=d.size)(hj:j<=d.size)(h:av d k=av d j):kC nm d k=kC nm d j:=by
  cases hw:aG (av d k).1
  · rw[iW nm d k hw,iW nm d j (by rw[<-h];exact hw),h]
  · rw[i6 nm d k hk hw,i6 nm d j hj (by rw[<-h];exact hw),h]
theorem CN(s:ByteArray)(c:UInt8):fX s ⟨#[36,c]⟩=(List.range s.size).any (fun i=>decide (1<=i)&&(aF s (i-1)==36)&&(aF s i==(c.toNat:Int))):=by
  have hsz:(⟨#[36,c]⟩:ByteArray).size=2:=rfl
  have hat:∀i,i+2<=s.size->(pn s ⟨#[36,c]⟩ i=((aF s i==36)&&(aF s (i+1)==(c.toNat:Int)))):=fun i hi=>by
    have e:(s.extract i (i+2)).toList=[s[i]'(by omega),s[i+1]'(by omega)]:=by
      apply List.ext_getElem
      · rw[ByteArray.toList_eq];simp;omega
      · intro n h1 h2
        simp only[List.length_cons,List.length_nil]at h2;have hn:n=0∨n=1:=by omega
        simp only[ByteArray.toList_eq,ByteArray.data_extract,Array.getElem_toList,Array.getElem_extract]
        rcases hn with rfl | rfl <;> rfl
    unfold pn;rw[hsz,e,bI s i (by omega),bI s (i+1) (by omega)];have e2:(⟨#[36,c]⟩:ByteArray).toList=[36,c]:=by rw[ByteArray.toList_eq]
    rw[e2]
    have b1:∀x:UInt8,((x.toNat:Int)==36)=(x==36):=fun x=>by
      rw[Bool.eq_iff_iff];simp only[beq_iff_eq]
      constructor
      · intro h;exact UInt8.toNat_inj.1 (by have:x.toNat=36:=by omega
                                             rw[this];rfl)
      · rintro rfl;rfl
    have b2:∀x:UInt8,((x.toNat:Int)==(c.toNat:Int))=(x==c):=fun x=>by
      rw[Bool.eq_iff_iff];simp only[beq_iff_eq]
      constructor
      · intro h;exact UInt8.toNat_inj.1 (by omega)
      · rintro rfl;rfl
    rw[b1,b2];simp[Bool.beq_eq_decide_eq,Bool.decide_and]
  unfold fX;rw[hsz,Bool.eq_iff_iff,List.any_eq_true,List.any_eq_true]
  constructor
  · rintro ⟨i,hi,h⟩
    have hi:=List.mem_range.1 hi;rw[Bool.and_eq_true,decide_eq_true_eq]at h;rw[hat i h.1]at h;exact⟨i+1,List.mem_range.2 (by omega),by rw[Nat.add_sub_cancel,Bool.and_eq_true,Bool.and_eq_true,decide_eq_true_eq];rw[Bool.and_eq_true]at h;exact⟨⟨by omega,h.2.1⟩,h.2.2⟩⟩
  · rintro ⟨i,hi,h⟩
    have hi:=List.mem_range.1 hi;rw[Bool.and_eq_true,Bool.and_eq_true,decide_eq_true_eq]at h;refine⟨i-1,List.mem_range.2 (by omega),?_⟩;rw[Bool.and_eq_true,decide_eq_true_eq,hat (i-1) (by omega),Bool.and_eq_true,show i-1+1=i by omega];exact⟨by omega,h.1.2,h.2⟩
theorem rU(s:ByteArray):jA s=(fX s ⟨#[36,40]⟩||fX s ⟨#[36,41]⟩):=by
  rw[CN,CN,Bool.eq_iff_iff,Bool.or_eq_true];unfold jA;simp only[List.any_eq_true,Bool.and_eq_true,Bool.or_eq_true]
  constructor
  · rintro ⟨i,hi,h1,h2 | h2⟩
    · exact Or.inl ⟨i,hi,h1,h2⟩
    · exact Or.inr ⟨i,hi,h1,h2⟩
  · rintro (⟨i,hi,h1,h2⟩ | ⟨i,hi,h1,h2⟩)
    · exact⟨i,hi,h1,Or.inl h2⟩
    · exact⟨i,hi,h1,Or.inr h2⟩
theorem ia(s:ByteArray):fX s ⟨#[36]⟩=dw s:=by
  have hsz:(⟨#[36]⟩:ByteArray).size=1:=rfl
  have hat:∀i,i+1<=s.size->(pn s ⟨#[36]⟩ i=(aF s i==36)):=fun i hi=>by
    have e:(s.extract i (i+1)).toList=[s[i]'(by omega)]:=by
      apply List.ext_getElem
      · rw[ByteArray.toList_eq];simp;omega
      · intro n h1 h2
        simp only[List.length_cons,List.length_nil]at h2;have hn:n=0:=by omega
        simp only[ByteArray.toList_eq,ByteArray.data_extract,Array.getElem_toList,Array.getElem_extract];subst hn;rfl
    unfold pn;rw[hsz,e,bI s i (by omega)];have e2:(⟨#[36]⟩:ByteArray).toList=[36]:=by rw[ByteArray.toList_eq]
    rw[e2,Bool.eq_iff_iff];simp only[beq_iff_eq,List.cons.injEq,and_true]
    constructor
    · intro h;rw[h];rfl
    · intro h;exact UInt8.toNat_inj.1 (by have:(s[i]'(by omega)).toNat=36:=by omega
                                           rw[this];rfl)
  unfold fX dw;rw[hsz,Bool.eq_iff_iff,List.any_eq_true,List.any_eq_true]
  constructor
  · rintro ⟨i,hi,h⟩
    rw[Bool.and_eq_true,decide_eq_true_eq]at h;rw[hat i h.1]at h;exact⟨i,List.mem_range.2 (by omega),h.2⟩
  · rintro ⟨i,hi,h⟩
    have hi:=List.mem_range.1 hi;exact⟨i,List.mem_range.2 (by omega),by rw[Bool.and_eq_true,decide_eq_true_eq,hat i (by omega)];exact⟨by omega,h⟩⟩
theorem qx(d:ByteArray)(k:Nat)(hk:k<=d.size):(aG (bi d k).1=true->((bi d k).1.text.toList == [])=false/\(bi d k).1.rule=0)/\(aG (bi d k).1=false->(bi d k).1.text=⟨#[]⟩/\((bi d k).1.fin=true->(bi d k).1.rule=0)):=by
  have a:=wL d k hk;have b:=pm d (skip d k) a.2;unfold bi;simp only
  split
  · exact⟨fun h=>by simp[aG]at h,fun _=>⟨rfl,fun h=>by cases h⟩⟩
  · split
    · exact⟨fun h=>by simp[aG]at h,fun _=>⟨rfl,fun _=>rfl⟩⟩
    · next h1 h2 =>
      refine⟨fun _=>⟨?_,rfl⟩,fun h=>by simp[aG]at h⟩
      have hl:(d.extract (skip d k) (ci d (skip d k))).size=ci d (skip d k)-skip d k:=by
        rw[ByteArray.size_extract];omega
      cases e:((d.extract (skip d k) (ci d (skip d k))).toList == [])
      · rfl
      · have e:(d.extract (skip d k) (ci d (skip d k))).toList=[]:=by simpa using e
        have:=congrArg List.length e;rw[ByteArray.toList_eq]at this;have hs:ci d (skip d k)-skip d k=0∨d.size-skip d k=0:=by simpa using this
        omega
theorem Gj(nm d:ByteArray)(f:Nat):∀k,k<=d.size->d.size-k+1<=f ->
    bJ true (li nm d k)=(if aG (aQ d k).1=true then bJ false (li nm d (aQ d k).2) else [kc nm d (aQ d k).1]):=by
  induction f with
  | zero=>intro k _ h;omega
  | succ f ih =>
    intro k hk hf;have hl:=fq d k hk;obtain⟨t1,t2⟩:=qx d k hk
    cases hw:aG (bi d k).1
    · obtain⟨e1,e2⟩:=t2 hw
      rw[iV nm d k hw]
      cases hfn:(bi d k).1.fin
      · have hr:((bi d k).1.rule==0)=false:=by
          unfold aG at hw;rw[hfn]at hw;simpa using hw
        rw[rT d k hw hfn,hw,if_neg (by simp),bJ,if_pos (by exact hr)];rw[bJ]
      · rw[qv d k hw hfn,if_neg (by simp[aG]),bJ,if_neg (by simp[kc,e2 hfn]),if_neg (by simp[kc,Ab,e1]),if_pos (by simp[kc,Ab,e1]),bJ]
        rfl
    · obtain⟨e1,e2⟩:=t1 hw
      have hl2:=hl.2.2 hw;rw[jY nm d k hk hw]
      cases hc:((bi d k).1.text.toList == [36,41])
      · cases hb:jA (bi d k).1.text
        · rw[uA d k hk hw hc hb,bJ,if_neg (by simp[kc,e2]),if_neg (by simp only[kc,Ab];rw[hc];simp),if_neg (by simp only[kc,Ab];rw[e1];simp),if_neg (by rw[<-rU];simp only[kc];rw[hb];simp)]
          exact ih _ hl.2.1 (by omega)
        · rw[qi d k hw hc hb,if_neg (by simp[aG]),bJ,if_neg (by simp[kc,e2]),if_neg (by simp only[kc,Ab];rw[hc];simp),if_neg (by simp only[kc,Ab];rw[e1];simp),if_pos (by rw[<-rU];exact hb)]
          rfl
      · rw[oO d k hw hc,if_pos hw,bJ,if_neg (by simp[kc,e2]),if_pos (by simp only[kc,Ab];exact hc)]
theorem DP(nm d:ByteArray)(f:Nat):∀k,k<=d.size->d.size-k+1<=f->bJ false (li nm d k)=kC nm d k:=by
  induction f with
  | zero=>intro k _ h;omega
  | succ f ih =>
    intro k hk hf;have hl:=fq d k hk;obtain⟨t1,t2⟩:=qx d k hk
    cases hw:aG (bi d k).1
    · obtain⟨e1,e2⟩:=t2 hw
      have hn:=pi d k (Or.inl hw);rw[iV nm d k hw,iW nm d k (by rw[hn];exact hw),hn,bJ,if_neg (by simp[kc,Ab,e1]),bJ]
    · have hl2:=hl.2.2 hw
      rw[jY nm d k hk hw]
      cases hc:((bi d k).1.text.toList == [36,40])
      · have hn:=pi d k (Or.inr hc)
        rw[i6 nm d k hk (by rw[hn];exact hw),hn,bJ,if_neg (by simp only[kc,Ab];rw[hc];simp),ih _ hl.2.1 (by omega)]
      · have hcl:=gZ d (bi d k).2 hl.2.1
        rw[bJ,if_pos (by simp only[kc,Ab];exact hc),Gj nm d _ _ hl.2.1 (Nat.le_refl _)]
        cases hcw:aG (aQ d (bi d k).2).1
        · have hn:=rH d k hw hc hcw
          rw[if_neg (by simp),iW nm d k (by rw[hn];exact hcw),hn]
        · have hn:=Cv d k hk hw hc hcw
          rw[if_pos rfl,ih _ hcl.2 (by omega)];exact(AG nm d k _ hk hcl.2 hn).symm
theorem vC(fs:Fs)(k:Nat):oL fs k=kC (aC fs k) (aj fs k) 0:=by
  unfold oL;rw[Bo];exact DP _ _ _ 0 (Nat.zero_le _) (Nat.le_refl _)
theorem gG(T U:List Tk)(i:Nat)(h:i<T.length):tS (T++U) i=tS T i:=by
 unfold tS;rw[List.getD_eq_getElem?_getD,List.getD_eq_getElem?_getD,List.getElem?_append_left h]
theorem qc(T:List Tk)(t:Tk):tS (T++[t]) T.length=t.s:=by
 unfold tS;rw[List.getD_eq_getElem?_getD,List.getElem?_append_right (Nat.le_refl _),Nat.sub_self];rfl
theorem wI(T U:List Tk)(b:Nat)(h:b+1<T.length):dZ (T++U) b=dZ T b:=by
 unfold dZ;rw[gG T U b (by omega),gG T U (b+1) h,List.length_append];have e1:decide (T.length+U.length<=b+1)=false:=by simp;omega
 have e2:decide (T.length<=b+1)=false:=by simp;omega
 rw[e1,e2]
theorem Ej(T U:List Tk)(b i:Nat)(hb:b<=i)(hi:i<T.length)(he:b7 (tS T i)=true):dZ (T++U) b=dZ T b:=by
 by_cases e:b=i
 ·subst e
  unfold dZ;rw[gG T U b hi,(kB he).1];simp
 ·exact wI T U b (by omega)
theorem uo(T U:List Tk)(i:Nat)(hi:i<=T.length):dW (T++U) i=dW T i:=by
 induction i with
 | zero=>rfl
 | succ i ih =>
  rw[dW,dW,ih (by omega),gG T U i (by omega)]
  cases he:b7 (tS T i)
  ·rfl
  ·rw[Ej T U _ i (FX T i) (by omega) he]
theorem AV(T:List Tk)(i k:Nat):∃M,(dW T (i+k)).1=(dW T i).1++M/\∀m∈M,i<m.z:=by
 induction k with
 | zero=>exact⟨[],by simp,by simp⟩
 | succ k ih =>
  obtain⟨M,h1,h2⟩:=ih;rw[show i+(k+1)=(i+k)+1 by omega,dW]
  split
  ·refine⟨M++[⟨(dW T (i+k)).2,i+k+1,(dZ T (dW T (i+k)).2).2,(dZ T (dW T (i+k)).2).1⟩],by simp only[h1,List.append_assoc],fun m hm=>?_⟩
   rcases List.mem_append.1 hm with h | h
   ·exact h2 m h
   ·rw[List.mem_singleton.1 h];show i<i+k+1;omega
  ·exact⟨M,h1,h2⟩
theorem wb(T U:List Tk):∃M,as (T++U)=as T++M/\∀m∈M,T.length<m.z:=by
 obtain⟨M,h1,h2⟩:=AV (T++U) T.length U.length;refine⟨M,?_,h2⟩;unfold as;rw[List.length_append,h1,uo T U _ (Nat.le_refl _)]
def gi(T:List Tk):Nat:=(dW T T.length).2
theorem As(T:List Tk):gi T=jh (as T) (as T).length:=(fL T).fr
theorem pb(T:List Tk)(t:Tk):as (T++[t])=(if b7 t.s=true then as T++[⟨gi T,T.length+1,(dZ (T++[t]) (gi T)).2,(dZ (T++[t]) (gi T)).1⟩] else as T)/\gi (T++[t])=(if b7 t.s=true then T.length+1 else gi T):=by
 unfold as gi;rw[List.length_append,List.length_cons,List.length_nil,dW,uo T [t] T.length (Nat.le_refl _),qc]
 split <;> exact⟨rfl,rfl⟩
theorem ke(S M:List Sm)(j:Nat)(h:j<S.length):au (S++M) j=au S j:=by
 unfold au;rw[List.getD_eq_getElem?_getD,List.getD_eq_getElem?_getD,List.getElem?_append_left h]
theorem yI(S M:List Sm)(n:Nat)(h:n<=S.length):jh (S++M) n=jh S n:=by
 unfold jh
 split
 ·rw[ke S M (n-1) (by omega)]
 ·rfl
theorem CA(i:Nat)(S M:List Sm)(h:∀m∈M,i<m.z):lN i (S++M)=lN i S:=by
 induction S with
 | nil =>
  cases M with
  | nil=>rfl
  | cons m M =>
   have:=h m (by simp)
   show(if m.z<=i then lN i M+1 else 0)=0
   rw[if_neg (by omega)]
 | cons s S ih=>rw[List.cons_append,lN,lN,ih]
theorem pg(S M:List Sm)(j n:Nat)(h:n<=S.length):bB (S++M) j n=bB S j n:=by
 unfold bB
 by_cases hj:j<=S.length
 ·rw[List.drop_append_of_le_length hj,List.take_append_of_le_length (by rw[List.length_drop];omega)]
 ·rw[show n-j=0 by omega];simp
theorem jV(S M:List Sm)(n:Nat)(h:n<=S.length):bF (S++M) n=bF S n:=by
 unfold bF;rw[List.take_append_of_le_length h]
theorem wk(L M:List Tk)(h:∃u∈L,lD u.s=true):lk (L++M)=lk L:=by
 induction L with
 | nil=>obtain⟨u,hu,-⟩:=h;cases hu
 | cons a L ih =>
  rw[List.cons_append,lk,lk]
  split
  ·rfl
  ·next hs =>
   rw[ih];obtain⟨u,hu,h2⟩:=h
   rcases List.mem_cons.1 hu with rfl | hu
   ·exact absurd h2 hs
   ·exact⟨u,hu,h2⟩
theorem Dk{T:List Tk}{h:Nat}(hs:eF T h):∃u∈T.drop h,lD u.s=true:=by
 obtain⟨e,h1,h2,h3⟩:=hs;refine⟨T[e],?_,?_⟩
 ·rw[List.mem_iff_getElem?]
  exact⟨e-h,by rw[List.getElem?_drop,show h+(e-h)=e by omega,List.getElem?_eq_getElem h2]⟩
 ·unfold tS at h3
  rw[List.getD_eq_getElem?_getD,List.getElem?_eq_getElem h2]at h3;exact h3
theorem tx(T U:List Tk)(h:Nat)(hs:eF T h):bV (T++U) h=bV T h:=by
 have hl:h<=T.length:=by obtain⟨e,h1,h2,-⟩:=hs;omega
 unfold bV;rw[List.drop_append_of_le_length hl,wk _ _ (Dk hs)]
theorem jO{n:Nat}{p q:Nat->Bool}(h:∀j,j<n->p j=q j):(List.range n).any p=(List.range n).any q:=by
 rw[Bool.eq_iff_iff,List.any_eq_true,List.any_eq_true]
 constructor
 ·rintro ⟨j,hj,h1⟩;exact⟨j,hj,by rw[<-h j (List.mem_range.1 hj)];exact h1⟩
 ·rintro ⟨j,hj,h1⟩;exact⟨j,hj,by rw[h j (List.mem_range.1 hj)];exact h1⟩
theorem tM{l:List Nat}{p q:Nat->Bool}(h:∀j∈l,p j=q j):l.find? p=l.find? q:=by
 induction l with
 | nil=>rfl
 | cons a l ih =>
  rw[List.find?_cons,List.find?_cons,h a (by simp),ih (fun j hj=>h j (by simp[hj]))]
section
variable {T U:List Tk} {S M:List Sm} {n:Nat}
theorem sZ(key x:ByteArray)(act:Bool)(hn:n<=S.length)(hk:∀j,j<n->((au S j).k.toList==key.toList)=true->eF T (au S j).h):io (T++U) (S++M) key x n act=io T S key x n act:=by
 unfold io;refine jO (fun j hj=>?_);unfold nG;rw[ke S M j (by omega),pg S M j n hn]
 cases h:((au S j).k.toList==key.toList)
 ·rfl
 ·rw[tx T U _ (hk j hj h)]
theorem ri(x:ByteArray)(ok:ji T S n):dM (T++U) (S++M) x n=dM T S x n:=sZ _ x _ ok.m (by rw[mm.1];exact ok.c)
theorem CV(x:ByteArray)(ok:ji T S n):jC (T++U) (S++M) x n=jC T S x n:=sZ _ x _ ok.m (by rw[mm.2];exact ok.v)
theorem vA(s:Sm)(h:s.a<T.length):cg (T++U) s=cg T s:=by
 unfold cg;rw[gG T U s.a h]
theorem pO(x:ByteArray)(ok:ji T S n):bn (T++U) (S++M) x n=bn T S x n:=by
 unfold bn
 rw[tM (q:=oF T S x) (fun j hj=>by
  have hj:=List.mem_range.1 hj;have:=ok.m;unfold oF;rw[ke S M j (by omega),vA _ (ok.a j hj)])]
theorem vy(x:ByteArray)(ok:ji T S n):iu (T++U) (S++M) x n=iu T S x n:=by
 unfold iu;rw[pO x ok,ri x ok,sZ _ x _ ok.m (by rw[mm.2];exact ok.v)]
theorem Dg(x:ByteArray)(ok:ji T S n)(hf:kI T S n):fg (T++U) (S++M) x n=fg T S x n:=by
 unfold fg
 rw[tM (q:=rt T S x n) (fun j hj=>by
  have hj:=List.mem_range.1 hj;have:=ok.m;unfold rt;rw[ke S M j (by omega),pg S M j n ok.m]
  cases h:((au S j).k.toList == [36,102])
  ·rfl
  ·rw[gG T U _ (hf j hj h)])]
theorem EE(x:ByteArray)(con:Bool)(B:List ByteArray)(ok:ji T S n):iY (T++U) (S++M) x n con B=iY T S x n con B:=by
 unfold iY;rw[vy x ok,pO x ok,ri x ok,CV x ok]
theorem Bk(key x:ByteArray)(B:List ByteArray)(ok:ji T S n)(hf:kI T S n):ik (T++U) (S++M) key x n B=ik T S key x n B:=by
 unfold ik;rw[ri x ok,CV x ok,Dg x ok hf]
theorem zW(key x:ByteArray)(B:List ByteArray)(ok:ji T S n)(hf:kI T S n):kq (T++U) (S++M) key x n B=kq T S key x n B:=by
 unfold kq;rw[EE x _ B ok,Bk key x B ok hf]
theorem vU(x:ByteArray)(ok:ji T S n):cU (T++U) (S++M) x n=cU T S x n:=by
 unfold cU;rw[jV S M n ok.m,vy x ok]
end
theorem C1(T U:List Tk)(h i:Nat)(hh:h<=i)(hi:i<=T.length):eD (T++U) h i=eD T h i:=by
 unfold eD;rw[List.drop_append_of_le_length (by omega),List.take_append_of_le_length (by rw[List.length_drop];omega)]
theorem uT(T U:List Tk)(hT:T.length<=100000)(i:Nat)(hi:i<T.length)(hall:∀j,j<i->a9 T (as T) j=0):a9 (T++U) (as (T++U)) i=a9 T (as T) i:=by
 obtain⟨ok,hf⟩:=J8 T hT i hi hall;obtain⟨M,hM,hz⟩:=wb T U;rw[hM];generalize as T=S at *;have hc:hZ (S++M) i=hZ S i:=CA i S M (fun m hm=>by have:=hz m hm;omega);have hb:=Ht S i;unfold a9;rw[hc,yI S M _ ok.m,gG T U i hi]
 by_cases e:i=jh S (hZ S i)
 ·rw[if_pos e,if_pos e,vU _ ok]
 ·rw[if_neg e,if_neg e,wI T U _ (by omega)]
  split
  ·rfl
  ·next hh =>
   rw[zW _ _ _ ok hf,C1 T U _ i (by omega) (by omega)]
theorem pv(T U:List Tk)(hT:T.length<=100000)(h:∀j,j<T.length->a9 T (as T) j=0):∀j,j<T.length->a9 (T++U) (as (T++U)) j=0:=fun j hj=>by
 rw[uT T U hT j hj (fun q hq=>h q (by omega))];exact h j hj
def rP(o:Int)(L:List Sm):Int:=L.foldl (fun o s=>aY o s.k) o
theorem wi(o c:Int)(k:ByteArray):aY (o+c) k=aY o k+c:=by
 unfold aY
 split <;> split <;> omega
theorem yh(L:List Sm):∀o c,rP (o+c) L=rP o L+c:=by
 induction L with
 | nil=>intro o c;rfl
 | cons s L ih =>
  intro o c
  show rP (aY (o+c) s.k) L=rP (aY o s.k) L+c
  rw[wi,ih]
theorem DN(L:List Sm)(s:Sm):∀o,oC o (L++[s])=(oC o L&&decide (0<=rP o (L++[s]))):=by
 induction L with
 | nil =>
  intro o
  show(if aY o s.k<0 then false else oC (aY o s.k) [])=(oC o []&&decide (0<=aY o s.k))
  simp only[oC]
  by_cases h:aY o s.k<0
  ·rw[if_pos h];simp;omega
  ·rw[if_neg h];simp;omega
 | cons a L ih =>
  intro o;rw[List.cons_append,oC,oC]
  by_cases h:aY o a.k<0
  ·rw[if_pos h,if_pos h];rfl
  ·rw[if_neg h,if_neg h,ih];rfl
theorem BD(S:List Sm)(j n:Nat)(hj:j<=n):rP 0 ((S.drop j).take (n-j))=bF S n-bF S j:=by
 have e:S.take n=S.take j++(S.drop j).take (n-j):=by
  rw[show n=j+(n-j) by omega,List.take_add];simp
 have h2:bF S n=rP (bF S j) ((S.drop j).take (n-j)):=by
  unfold bF rP;rw[e,List.foldl_append]
 have:=yh ((S.drop j).take (n-j)) 0 (bF S j);rw[Int.zero_add]at this;omega
theorem sU(S:List Sm)(j n:Nat)(hj:j<=n)(hn:n<S.length):bB S j (n+1)=(bB S j n&&decide (bF S j<=bF S (n+1))):=by
 have e:(S.drop j).take (n+1-j)=(S.drop j).take (n-j)++[S[n]]:=by
  rw[show n+1-j=(n-j)+1 by omega,List.take_succ_eq_append_getElem (by rw[List.length_drop];omega),List.getElem_drop]
  congr 3;omega
 have hf:=BD S j (n+1) (by omega);unfold bB;rw[e]at hf ⊢;rw[DN,hf]
 congr 1
 rw[decide_eq_decide];omega
theorem G7(S:List Sm)(j:Nat):bB S j j=true:=by
 unfold bB;rw[Nat.sub_self,List.take_zero,oC]
theorem Ig(S:List Sm)(j n:Nat)(hj:j<=n)(hn:n<=S.length)(h:bB S j n=true):∀m,j<=m->m<=n->bF S j<=bF S m:=by
 induction n with
 | zero=>intro m h1 h2;have e:m=j:=by omega
      rw[e];exact Int.le_refl _
 | succ n ih =>
  intro m h1 h2
  by_cases e:j=n+1
  ·have e:m=j:=by omega
   rw[e];exact Int.le_refl _
  ·rw[sU S j n (by omega) (by omega),Bool.and_eq_true,decide_eq_true_eq]at h
   by_cases e2:m=n+1
   ·rw[e2];exact h.2
   ·exact ih (by omega) (by omega) h.1 m h1 (by omega)
def jf(S:List Sm)(n:Nat):List Nat:=(List.range n).filter (fun j=>bB S j n)
theorem f8{S:List Sm}{n j:Nat}(h:j∈jf S n):j<n:=List.mem_range.1 (List.mem_filter.1 h).1
theorem Be(S:List Sm)(n:Nat)(hn:n<=S.length):(jf S n).Pairwise (fun a b=>bF S a<=bF S b):=by
 have h:=(List.pairwise_lt_range (n:=n)).filter (fun j=>bB S j n);refine h.imp_of_mem (fun {a b} ha hb hab=>?_);have hb:=f8 hb;exact Ig S a n (by omega) hn (List.mem_filter.1 ha).2 b (by omega) (by omega)
theorem A7{f:Nat->Int}(c:Int)(l:List Nat)(h:l.Pairwise (fun a b=>f a<=f b)):l=l.filter (fun j=>decide (f j<=c))++l.filter (fun j=>!decide (f j<=c)):=by
 induction l with
 | nil=>rfl
 | cons a l ih =>
  obtain⟨h1,h2⟩:=List.pairwise_cons.1 h;have ih:=ih h2
  by_cases ha:f a<=c
  ·rw[List.filter_cons_of_pos (by simpa using ha),List.filter_cons_of_neg (by simpa using ha),List.cons_append,<-ih]
  ·have e:l.filter (fun j=>decide (f j<=c))=[]:=by
    rw[List.filter_eq_nil_iff];intro b hb;have:=h1 b hb;simp;omega
   rw[List.filter_cons_of_neg (by simpa using ha),List.filter_cons_of_pos (by simpa using ha),e];rw[e]at ih;rw[List.nil_append]at ih ⊢;rw[<-ih]
theorem oU{n:Nat}{p q:Nat->Bool}(h:∀j,j<n->p j=q j):(List.range n).filter p=(List.range n).filter q :=
 List.filter_congr (fun j hj=>h j (List.mem_range.1 hj))
theorem lz(S:List Sm)(s:Sm):bF (S++[s]) (S.length+1)=aY (bF S S.length) s.k:=by
 rw[rD (S++[s]) S.length (by simp),jV S [s] _ (Nat.le_refl _)]
 congr 2
 simp
theorem po(S:List Sm)(s:Sm):jf (S++[s]) (S.length+1)=(jf S S.length).filter (fun j=>decide (bF S j<=aY (bF S S.length) s.k))++(if 0<=aY 0 s.k then [S.length] else []):=by
 unfold jf;rw[List.range_succ,List.filter_append,List.filter_filter]
 congr 1
 ·refine oU (fun j hj=>?_)
  rw[sU (S++[s]) j S.length (by omega) (by simp),pg S [s] j _ (Nat.le_refl _),jV S [s] j (by omega),lz,Bool.and_comm]
 ·have e:bB (S++[s]) S.length (S.length+1)=decide (0<=aY 0 s.k):=by
   rw[sU (S++[s]) S.length S.length (Nat.le_refl _) (by simp),G7,jV S [s] _ (Nat.le_refl _),lz,Bool.true_and,decide_eq_decide];have:=wi 0 (bF S S.length) s.k;rw[Int.zero_add]at this;omega
  by_cases h:0<=aY 0 s.k
  ·rw[if_pos h,List.filter_cons_of_pos (by rw[e];simpa using h)];rfl
  ·rw[if_neg h,List.filter_cons_of_neg (by rw[e];simpa using h)];rfl
theorem E6{S:List Sm}{n j:Nat}(hn:n<=S.length)(h:j∈jf S n):bF S j<=bF S n:=by
 have hl:=f8 h;exact Ig S j n (by omega) hn (List.mem_filter.1 h).2 n (by omega) (Nat.le_refl _)
structure qn(F:Nat->List ByteArray)(S:List Sm)(L:List ByteArray)(B:List Nat):Prop where
 l:L=(jf S S.length).flatMap F
 b:(B.length:Int)=bF S S.length
 o:∀i,i<B.length->B[i]?=some (((jf S S.length).filter (fun j=>decide (bF S j<=(i:Int)))).flatMap F).length
theorem dm{l:List Nat}{F G:Nat->List ByteArray}(h:∀j∈l,F j=G j):l.flatMap F=l.flatMap G:=by
 induction l with
 | nil=>rfl
 | cons a l ih=>rw[List.flatMap_cons,List.flatMap_cons,h a (by simp),ih (fun j hj=>h j (by simp[hj]))]
theorem pj{S:List Sm}{n:Nat}(hn:n<=S.length){c:Int}(hc:bF S n<=c):(jf S n).filter (fun j=>decide (bF S j<=c))=jf S n :=
 List.filter_eq_self.2 (fun j hj=>by have:=E6 hn hj;simp;omega)
theorem eC(S:List Sm)(s:Sm):(S++[s]).length=S.length+1:=by simp
theorem nk{S:List Sm}{s:Sm}{n:Nat}(hn:n<=S.length)(c:Int):(jf S n).filter (fun j=>decide (bF (S++[s]) j<=c))=(jf S n).filter (fun j=>decide (bF S j<=c)) :=
 List.filter_congr (fun j hj=>by rw[jV S [s] j (by have:=f8 hj;omega)])
theorem qn.norm{F F':Nat->List ByteArray}{S:List Sm}{L:List ByteArray}{B:List Nat}(h:qn F S L B)(s:Sm)(hs:∀o,aY o s.k=o)(hF:∀j,j<S.length->F' j=F j):qn F' (S++[s]) (L++F' S.length) B:=by
 have e:=po S s;rw[hs,hs,if_pos (Int.le_refl _),pj (Nat.le_refl _) (Int.le_refl _)]at e;have hb:=h.b;refine⟨?_,?_,fun i hi=>?_⟩
 ·rw[eC,e,List.flatMap_append,h.l,dm (fun j hj=>hF j (f8 hj))];simp
 ·rw[eC,lz,hs];exact hb
 ·rw[eC,e,List.filter_append,nk (Nat.le_refl _),List.filter_cons_of_neg (by rw[jV S [s] _ (Nat.le_refl _)];simp;omega),List.filter_nil,List.append_nil,dm (fun j hj=>hF j (f8 (List.mem_filter.1 hj).1))]
  exact h.o i hi
theorem qn.push{F F':Nat->List ByteArray}{S:List Sm}{L:List ByteArray}{B:List Nat}(h:qn F S L B)(s:Sm)(hs:∀o,aY o s.k=o+1)(hF:∀j,j<S.length->F' j=F j)(h0:F' S.length=[]):qn F' (S++[s]) L (B++[L.length]):=by
 have e:=po S s;rw[hs,hs,if_pos (by omega),pj (Nat.le_refl _) (by omega)]at e;have hb:=h.b
 have one:∀p:Nat->Bool,([S.length].filter p).flatMap F'=[]:=fun p=>by
  rw[List.flatMap_eq_nil_iff];intro j hj;have:=List.mem_singleton.1 (List.mem_filter.1 hj).1;rw[this];exact h0
 refine⟨?_,?_,fun i hi=>?_⟩
 ·rw[eC,e,List.flatMap_append,h.l,dm (fun j hj=>hF j (f8 hj))];simp[h0]
 ·rw[eC,lz,hs];simp;omega
 ·rw[eC,e,List.filter_append,nk (Nat.le_refl _),List.flatMap_append,one,List.append_nil,dm (fun j hj=>hF j (f8 (List.mem_filter.1 hj).1))]
  simp only[List.length_append,List.length_cons,List.length_nil]at hi
  by_cases hi2:i<B.length
  ·rw[List.getElem?_append_left hi2];exact h.o i hi2
  ·have e2:i=B.length:=by omega
   rw[e2,List.getElem?_append_right (Nat.le_refl _),Nat.sub_self,pj (Nat.le_refl _) (by omega),<-h.l];rfl
theorem qn.pop{F F':Nat->List ByteArray}{S:List Sm}{L:List ByteArray}{B:List Nat}{q:Nat}(h:qn F S L (B++[q]))(s:Sm)(hs:∀o,aY o s.k=o-1)(hF:∀j,j<S.length->F' j=F j):qn F' (S++[s]) (L.take q) B:=by
 have e:=po S s;rw[hs,hs,if_neg (by omega),List.append_nil]at e;have hb:=h.b;simp only[List.length_append,List.length_cons,List.length_nil]at hb;have hd:bF S S.length-1=(B.length:Int):=by omega
 rw[hd]at e;have hq:=h.o B.length (by simp);rw[List.getElem?_append_right (Nat.le_refl _),Nat.sub_self]at hq;have hq:q=(((jf S S.length).filter (fun j=>decide (bF S j<=(B.length:Int)))).flatMap F).length:=by simpa using hq
 refine⟨?_,?_,fun i hi=>?_⟩
 ·rw[eC,e,dm (G:=F) (fun j hj=>hF j (f8 (List.mem_filter.1 hj).1))]
  have hl:=h.l;rw[A7 (f:=bF S) (B.length:Int) (jf S S.length) (Be S _ (Nat.le_refl _)),List.flatMap_append]at hl;rw[hl,hq,List.take_append_of_le_length (Nat.le_refl _),List.take_length]
 ·rw[eC,lz,hs];omega
 ·rw[eC,e,List.filter_filter]
  have e3:(jf S S.length).filter (fun j=>decide (bF (S++[s]) j<=(i:Int))&&decide (bF S j<=(B.length:Int)))=(jf S S.length).filter (fun j=>decide (bF S j<=(i:Int))) :=
   List.filter_congr (fun j hj=>by
    rw[jV S [s] j (by have:=f8 hj;omega)]
    by_cases hh:bF S j<=(i:Int)
    ·have h2:bF S j<=(B.length:Int):=by omega
     simp[hh,h2]
    ·simp[hh])
  rw[e3,dm (G:=F) (fun j hj=>hF j (f8 (List.mem_filter.1 hj).1))];have:=h.o i (by simp;omega);rw[List.getElem?_append_left hi]at this;exact this
def zq(T:List Tk)(S:List Sm)(j:Nat):List ByteArray:=if((au S j).k.toList == [36,118])=true then bV T (au S j).h else []
def Di(T:List Tk)(S:List Sm)(j:Nat):List ByteArray:=if((au S j).k.toList == [36,99])=true then bV T (au S j).h else []
def Dt(T:List Tk)(S:List Sm)(j:Nat):List ByteArray:=if((au S j).k.toList == [36,102])=true then [tS T ((au S j).h+1)] else []
def FR(T:List Tk)(S:List Sm)(j:Nat):List ByteArray:=if((cg T (au S j)).toList == [])=true then [] else [cg T (au S j)]
theorem nY(F:Nat->List ByteArray)(l:List Nat)(x:ByteArray):aI (l.flatMap F) x=l.any (fun j=>aI (F j) x):=by
 unfold aI;rw[List.any_flatMap]
theorem gD(x:ByteArray):aI [] x=false:=rfl
theorem uC(l m:List ByteArray)(x:ByteArray):aI (l++m) x=(aI l x||aI m x):=by
 unfold aI;rw[List.any_append]
theorem qR(y x:ByteArray):aI [y] x=(y.toList==x.toList):=by simp[aI]
theorem rS(l:List Nat)(p q:Nat->Bool):(l.filter p).any q=l.any (fun j=>p j&&q j):=by
 rw[List.any_filter]
theorem Cw(T:List Tk)(S:List Sm)(x:ByteArray)(n:Nat):jC T S x n=aI ((jf S n).flatMap (zq T S)) x:=by
 rw[nY];unfold jf;rw[rS];unfold jC io;refine jO (fun j hj=>?_);unfold nG zq;rw[mm.2]
 cases h:((au S j).k.toList == [36,118])
 ·rw[if_neg (by simp),gD];simp
 ·rw[if_pos rfl];simp[Bool.and_comm]
theorem rk(T:List Tk)(S:List Sm)(x:ByteArray)(n:Nat):dM T S x n=aI ((List.range n).flatMap (Di T S)) x:=by
 rw[nY];unfold dM io;refine jO (fun j hj=>?_);unfold nG Di;rw[mm.1]
 cases h:((au S j).k.toList == [36,99])
 ·rw[if_neg (by simp),gD];simp
 ·rw[if_pos rfl];simp
theorem BC(T:List Tk)(S:List Sm)(x:ByteArray)(n:Nat):io T S ⟨#[36,118]⟩ x n false=aI ((List.range n).flatMap (zq T S)) x:=by
 rw[nY];unfold io;refine jO (fun j hj=>?_);unfold nG zq;rw[mm.2]
 cases h:((au S j).k.toList == [36,118])
 ·rw[if_neg (by simp),gD];simp
 ·rw[if_pos rfl];simp
theorem Jz(l:List Nat)(p:Nat->Bool):(match l.find? p with | some j=>(j:Int) | none=>-1)=-1 ↔ l.any p=false:=by
 cases h:l.find? p with
 | none=>simp only[true_iff];rw[List.any_eq_false];rw[List.find?_eq_none]at h;exact h
 | some j =>
  have h1:=List.find?_some h;have h2:=List.mem_of_find?_eq_some h;have h3:l.any p=true:=List.any_eq_true.2 ⟨j,h2,h1⟩;rw[h3];simp only[Bool.true_eq_false,iff_false];intro h4;have:(0:Int)<=(j:Int):=by omega
  omega
theorem CC(l:List Nat)(p:Nat->Bool):decide (0<=(match l.find? p with | some j=>(j:Int) | none=>-1))=l.any p:=by
 cases h:l.find? p with
 | none =>
  have:=(Jz l p).1 (by rw[h]);rw[this];rfl
 | some j =>
  have h3:l.any p=true:=List.any_eq_true.2 ⟨j,List.mem_of_find?_eq_some h,List.find?_some h⟩;rw[h3];simp
theorem qm(T:List Tk)(S:List Sm)(x:ByteArray)(n:Nat):decide (0<=bn T S x n)=aI ((List.range n).flatMap (FR T S)) x:=by
 rw[nY];unfold bn;refine(CC (List.range n) (oF T S x)).trans ?_;refine jO (fun j hj=>?_);unfold oF FR
 cases h:((cg T (au S j)).toList == [])
 ·rw[if_neg (by simp),qR];simp
 ·rw[if_pos rfl,gD];simp
theorem Eo(T:List Tk)(S:List Sm)(x:ByteArray)(n:Nat):decide (0<=fg T S x n)=aI ((jf S n).flatMap (Dt T S)) x:=by
 rw[nY];unfold jf;rw[rS];unfold fg;refine(CC (List.range n) (rt T S x n)).trans ?_;refine jO (fun j hj=>?_);unfold rt Dt
 cases h:((au S j).k.toList == [36,102])
 ·rw[if_neg (by simp),gD];simp
 ·rw[if_pos rfl,qR];simp[Bool.and_comm]
end Go.Proofs.YtpddjjabfbfifaaGreat

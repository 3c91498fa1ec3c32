import Derived.Test.YtpddjjabfbfifaaGreatG07
import Derived.Test.YtpddjjabfbfifaaGreatG23
namespace Go.Proofs.YtpddjjabfbfifaaGreat
open Go.RowKit
set_option maxHeartbeats 40000000
def j8(nm d:ByteArray)(i:p9):Tk:=⟨i.text,i.rule,nm,aL d i.pos,aW d i.pos⟩
def JL(nm d:ByteArray):Nat->Nat->List Tk
  | 0,_=>[]
  | f+1,k=>j8 nm d (bi d k).1 :: (if aG (bi d k).1=true then JL nm d f (bi d k).2 else [])
def lu(nm d:ByteArray)(k:Nat):List Tk:=JL nm d (d.size-k+1) k
theorem Fu(nm d:ByteArray)(f k:Nat)(hk:k<=d.size)(hf:d.size-k+1<=f):JL nm d f k=lu nm d k:=by
  unfold lu
  suffices h:∀f g k,k<=d.size->d.size-k+1<=f->d.size-k+1<=g->JL nm d f k=JL nm d g k from h _ _ _ hk hf (Nat.le_refl _)
  clear hf hk f k;intro f
  induction f with
  | zero=>intro g k _ h;omega
  | succ f ih =>
    intro g k hk hf hg
    cases g with
    | zero=>omega
    | succ g =>
      rw[JL,JL]
      split
      · next h =>
        have hl:=fq d k hk;have hl2:=hl.2.2 h;rw[ih g _ hl.2.1 (by omega) (by omega)]
      · rfl
theorem jZ(nm d:ByteArray)(k:Nat)(hk:k<=d.size)(h:aG (bi d k).1=true):lu nm d k=j8 nm d (bi d k).1 :: lu nm d (bi d k).2:=by
  have hl:=fq d k hk;have hl2:=hl.2.2 h
  conv=>lhs;unfold lu
  rw[JL,if_pos h,Fu nm d _ _ hl.2.1 (by omega)]
theorem iU(nm d:ByteArray)(k:Nat)(h:aG (bi d k).1=false):lu nm d k=[j8 nm d (bi d k).1]:=by
  unfold lu;rw[JL,if_neg (by simp[h])]
theorem AM(d:ByteArray)(k:Nat)(h:k<d.size)(hb:cD (aF d k)=true):bi d k=bi d (k+1):=by
  unfold bi;rw[Cn d k h hb]
theorem rM(nm d:ByteArray)(k:Nat)(h:k<d.size)(hb:cD (aF d k)=true):lu nm d k=lu nm d (k+1):=by
  have e:=AM d k h hb
  cases hw:aG (bi d k).1
  · rw[iU nm d k hw,iU nm d (k+1) (by rw[<-e];exact hw),e]
  · rw[jZ nm d k (by omega) hw,jZ nm d (k+1) (by omega) (by rw[<-e];exact hw),e]
theorem zh(d:ByteArray)(n:Nat):∀a,(∀j,a<=j->j<a+n->j<d.size/\cD (aF d j)=false/\eL (aF d j)=true)->ci d a=ci d (a+n):=by
  induction n with
  | zero=>intro a _;rfl
  | succ n ih =>
    intro a h;have h0:=h a (by omega) (by omega);rw[C2 d a h0.1 h0.2.1 h0.2.2,ih (a+1) (fun j h1 h2=>h j (by omega) (by omega))]
    congr 1;omega
theorem AI{n:Int}(h:oA n=false)(hb:cD n=false):eL n=true:=by
  unfold oA at h;rw[hb]at h;simpa using h
theorem zT(d:ByteArray)(a z:Nat)(haz:a<z)(hz:z<=d.size)(hj:∀j,a<=j->j<z->cD (aF d j)=false/\eL (aF d j)=true)(he:z<d.size->cD (aF d z)=true):bi d a=(⟨d.extract a z,0,false,a⟩,z):=by
  have hw:=zh d (z-a) a (fun j h1 h2=>⟨by omega,hj j h1 (by omega)⟩);rw[show a+(z-a)=z by omega]at hw;refine vF d a a z (qv d a (fun h=>?_)).symm hw.symm (fun h=>?_) haz
  · rw[(hj a (Nat.le_refl _) haz).1]at h;simp at h
  · rw[he h.1]at h;simp at h
theorem mo(d:ByteArray)(i:Nat):∀j,cK d i<=j->j<i->cD (aF d j)=false:=by
  induction i with
  | zero=>intro j _ h;omega
  | succ i ih =>
    intro j h1 h2;rw[cK]at h1
    split at h1
    · omega
    · next hb =>
      by_cases e:j=i
      · rw[e];simpa using hb
      · exact ih j h1 (by omega)
theorem tq(nm d:ByteArray)(i:Nat)(hi:i<=d.size)(hb:∀j,j<i->oA (aF d j)=false):lu nm d 0=hQ nm d i++lu nm d (cK d i):=by
  induction i with
  | zero=>rfl
  | succ i ih =>
    have ih:=ih (by omega) (fun j hj=>hb j (by omega));rw[hQ,cK]
    cases hbl:cD (aF d i)
    · rw[if_neg (by simp),if_neg (by simp)];exact ih
    · rw[if_pos rfl,if_pos rfl]
      have hl:=me d i;unfold g7
      split
      · next e =>
        rw[ih,e,rM nm d i (by omega) hbl]
      · next e =>
        have hr:=zT d (cK d i) i (by omega) (by omega) (fun j h1 h2=>⟨mo d i j h1 h2,AI (hb j (by omega)) (mo d i j h1 h2)⟩) (fun _=>hbl);rw[ih,jZ nm d (cK d i) (by omega) (by rw[hr];rfl),hr,<-rM nm d i (by omega) hbl];simp[j8,kL]
theorem BA(nm d:ByteArray):fS nm d=lu nm d 0:=by
  unfold fS
  cases hf:iH d with
  | some i =>
    unfold iH at hf;rw[List.find?_range_eq_some]at hf;obtain⟨h1,h2,h3⟩:=hf;have h2:=List.mem_range.1 h2;have hb:∀j,j<i->oA (aF d j)=false:=fun j hj=>by simpa using h3 j hj
    have hl:=me d i;have hin:∀j,cK d i<=j->j<cK d i+(i-cK d i)->j<d.size/\cD (aF d j)=false/\eL (aF d j)=true:=fun j h1 h2=>⟨by omega,mo d i j h1 (by omega),AI (hb j (by omega)) (mo d i j h1 (by omega))⟩
    have hp:eL (aF d i)=false/\cD (aF d i)=false:=by
      unfold oA at h1;simpa using h1
    have hw:=zh d (i-cK d i) (cK d i) hin;rw[show cK d i+(i-cK d i)=i by omega]at hw
    have hsk:cK d i=skip d (cK d i):=(qv d _ (fun h=>by
      by_cases e:cK d i=i
      · rw[e,hp.2]at h;simp at h
      · rw[(hin (cK d i) (Nat.le_refl _) (by omega)).2.1]at h;simp at h)).symm
    have hr:=yS d (cK d i) (cK d i) i hsk hw.symm h2 hp.2 hp.1;simp only;rw[tq nm d i (by omega) hb,iU nm d (cK d i) (by rw[hr];rfl),hr];simp[j8,kL]
  | none =>
    have hb:∀j,j<d.size->oA (aF d j)=false:=fun j hj=>by
      unfold iH at hf;rw[List.find?_eq_none]at hf;simpa using hf j (List.mem_range.2 hj)
    have hl:=me d d.size;have hend:bi d d.size=(⟨⟨#[]⟩,0,true,d.size⟩,d.size):=yF d d.size d.size d.size (qv d _ (fun h=>by omega)).symm rfl (fun h=>by omega) (Nat.le_refl _);simp only;rw[tq nm d d.size (Nat.le_refl _) hb];unfold g7
    split
    · next e =>
      rw[e,iU nm d d.size (by rw[hend];rfl),hend];simp[j8,kL]
    · next e =>
      have hr:=zT d (cK d d.size) d.size (by omega) (Nat.le_refl _) (fun j h1 h2=>⟨mo d _ j h1 h2,AI (hb j h2) (mo d _ j h1 h2)⟩) (fun h=>by omega);rw[jZ nm d (cK d d.size) hl (by rw[hr];rfl),hr,iU nm d d.size (by rw[hend];rfl),hend];simp[j8,kL]
def Jv(nm d:ByteArray):Nat->Nat->List Tk
  | 0,_=>[]
  | f+1,k=>j8 nm d (av d k).1 :: (if aG (av d k).1=true then Jv nm d f (av d k).2 else [])
def kz(nm d:ByteArray)(k:Nat):List Tk:=Jv nm d (d.size-k+1) k
theorem GU(nm d:ByteArray)(f k:Nat)(hk:k<=d.size)(hf:d.size-k+1<=f):Jv nm d f k=kz nm d k:=by
  unfold kz
  suffices h:∀f g k,k<=d.size->d.size-k+1<=f->d.size-k+1<=g->Jv nm d f k=Jv nm d g k from h _ _ _ hk hf (Nat.le_refl _)
  clear hf hk f k;intro f
  induction f with
  | zero=>intro g k _ h;omega
  | succ f ih =>
    intro g k hk hf hg
    cases g with
    | zero=>omega
    | succ g =>
      rw[Jv,Jv]
      split
      · next h =>
        have hl:=eM d k hk;have hl2:=hl.2.2 h;rw[ih g _ hl.2.1 (by omega) (by omega)]
      · rfl
theorem iV(nm d:ByteArray)(k:Nat)(hk:k<=d.size)(h:aG (av d k).1=true):kz nm d k=j8 nm d (av d k).1 :: kz nm d (av d k).2:=by
  have hl:=eM d k hk;have hl2:=hl.2.2 h
  conv=>lhs;unfold kz
  rw[Jv,if_pos h,GU nm d _ _ hl.2.1 (by omega)]
theorem i6(nm d:ByteArray)(k:Nat)(h:aG (av d k).1=false):kz nm d k=[j8 nm d (av d k).1]:=by
  unfold kz;rw[Jv,if_neg (by simp[h])]
theorem Ax(nm d:ByteArray)(k j:Nat)(hk:k<=d.size)(hj:j<=d.size)(h:av d k=av d j):kz nm d k=kz nm d j:=by
  cases hw:aG (av d k).1
  · rw[i6 nm d k hw,i6 nm d j (by rw[<-h];exact hw),h]
  · rw[iV nm d k hk hw,iV nm d j hj (by rw[<-h];exact hw),h]
theorem CR(s:ByteArray)(c:UInt8):fZ s ⟨#[36,c]⟩=(List.range s.size).any (fun i=>decide (1<=i)&&(aF s (i-1)==36)&&(aF s i==(c.toNat:Int))):=by
  have hsz:(⟨#[36,c]⟩:ByteArray).size=2:=rfl
  have hat:∀i,i+2<=s.size->(oU s ⟨#[36,c]⟩ i=((aF s i==36)&&(aF s (i+1)==(c.toNat:Int)))):=fun i hi=>by
    have e:(s.extract i (i+2)).toList=[s[i]'(by omega),s[i+1]'(by omega)]:=by
      apply List.ext_getElem
      · rw[ByteArray.toList_eq];simp;omega
      · intro n h1 h2
        simp only[List.length_cons,List.length_nil]at h2;have hn:n=0∨n=1:=by omega
        simp only[ByteArray.toList_eq,ByteArray.data_extract,Array.getElem_toList,Array.getElem_extract]
        rcases hn with rfl | rfl <;> rfl
    unfold oU;rw[hsz,e,bI s i (by omega),bI s (i+1) (by omega)];have e2:(⟨#[36,c]⟩:ByteArray).toList=[36,c]:=by rw[ByteArray.toList_eq]
    rw[e2]
    have b1:∀x:UInt8,((x.toNat:Int)==36)=(x==36):=fun x=>by
      rw[Bool.eq_iff_iff];simp only[beq_iff_eq]
      constructor
      · intro h;exact UInt8.toNat_inj.1 (by have:x.toNat=36:=by omega
                                             rw[this];rfl)
      · rintro rfl;rfl
    have b2:∀x:UInt8,((x.toNat:Int)==(c.toNat:Int))=(x==c):=fun x=>by
      rw[Bool.eq_iff_iff];simp only[beq_iff_eq]
      constructor
      · intro h;exact UInt8.toNat_inj.1 (by omega)
      · rintro rfl;rfl
    rw[b1,b2];simp[Bool.beq_eq_decide_eq,Bool.decide_and]
  unfold fZ;rw[hsz,Bool.eq_iff_iff,List.any_eq_true,List.any_eq_true]
  constructor
  · rintro ⟨i,hi,h⟩
    have hi:=List.mem_range.1 hi;rw[Bool.and_eq_true,decide_eq_true_eq]at h;rw[hat i h.1]at h;exact⟨i+1,List.mem_range.2 (by omega),by rw[Nat.add_sub_cancel,Bool.and_eq_true,Bool.and_eq_true,decide_eq_true_eq];rw[Bool.and_eq_true]at h;exact⟨⟨by omega,h.2.1⟩,h.2.2⟩⟩
  · rintro ⟨i,hi,h⟩
    have hi:=List.mem_range.1 hi;rw[Bool.and_eq_true,Bool.and_eq_true,decide_eq_true_eq]at h;refine⟨i-1,List.mem_range.2 (by omega),?_⟩;rw[Bool.and_eq_true,decide_eq_true_eq,hat (i-1) (by omega),Bool.and_eq_true,show i-1+1=i by omega];exact⟨by omega,h.1.2,h.2⟩
theorem rP(s:ByteArray):jt s=(fZ s ⟨#[36,40]⟩||fZ s ⟨#[36,41]⟩):=by
  rw[CR,CR,Bool.eq_iff_iff,Bool.or_eq_true];unfold jt;simp only[List.any_eq_true,Bool.and_eq_true,Bool.or_eq_true]
  constructor
  · rintro ⟨i,hi,h1,h2 | h2⟩
    · exact Or.inl ⟨i,hi,h1,h2⟩
    · exact Or.inr ⟨i,hi,h1,h2⟩
  · rintro (⟨i,hi,h1,h2⟩ | ⟨i,hi,h1,h2⟩)
    · exact⟨i,hi,h1,Or.inl h2⟩
    · exact⟨i,hi,h1,Or.inr h2⟩
theorem g9(s:ByteArray):fZ s ⟨#[36]⟩=dw s:=by
  have hsz:(⟨#[36]⟩:ByteArray).size=1:=rfl
  have hat:∀i,i+1<=s.size->(oU s ⟨#[36]⟩ i=(aF s i==36)):=fun i hi=>by
    have e:(s.extract i (i+1)).toList=[s[i]'(by omega)]:=by
      apply List.ext_getElem
      · rw[ByteArray.toList_eq];simp;omega
      · intro n h1 h2
        simp only[List.length_cons,List.length_nil]at h2;have hn:n=0:=by omega
        simp only[ByteArray.toList_eq,ByteArray.data_extract,Array.getElem_toList,Array.getElem_extract];subst hn;rfl
    unfold oU;rw[hsz,e,bI s i (by omega)];have e2:(⟨#[36]⟩:ByteArray).toList=[36]:=by rw[ByteArray.toList_eq]
    rw[e2,Bool.eq_iff_iff];simp only[beq_iff_eq,List.cons.injEq,and_true]
    constructor
    · intro h;rw[h];rfl
    · intro h;exact UInt8.toNat_inj.1 (by have:(s[i]'(by omega)).toNat=36:=by omega
                                           rw[this];rfl)
  unfold fZ dw;rw[hsz,Bool.eq_iff_iff,List.any_eq_true,List.any_eq_true]
  constructor
  · rintro ⟨i,hi,h⟩
    rw[Bool.and_eq_true,decide_eq_true_eq]at h;rw[hat i h.1]at h;exact⟨i,List.mem_range.2 (by omega),h.2⟩
  · rintro ⟨i,hi,h⟩
    have hi:=List.mem_range.1 hi;exact⟨i,List.mem_range.2 (by omega),by rw[Bool.and_eq_true,decide_eq_true_eq,hat i (by omega)];exact⟨by omega,h⟩⟩
theorem pY(d:ByteArray)(k:Nat)(hk:k<=d.size):(aG (bi d k).1=true->((bi d k).1.text.toList == [])=false/\(bi d k).1.rule=0)/\(aG (bi d k).1=false->(bi d k).1.text=⟨#[]⟩/\((bi d k).1.fin=true->(bi d k).1.rule=0)):=by
  have a:=wO d k hk;have b:=oY d (skip d k) a.2;unfold bi;simp only
  split
  · exact⟨fun h=>by simp[aG]at h,fun _=>⟨rfl,fun h=>by cases h⟩⟩
  · split
    · exact⟨fun h=>by simp[aG]at h,fun _=>⟨rfl,fun _=>rfl⟩⟩
    · next h1 h2 =>
      refine⟨fun _=>⟨?_,rfl⟩,fun h=>by simp[aG]at h⟩
      have hl:(d.extract (skip d k) (ci d (skip d k))).size=ci d (skip d k)-skip d k:=by
        rw[ByteArray.size_extract];omega
      cases e:((d.extract (skip d k) (ci d (skip d k))).toList == [])
      · rfl
      · have e:(d.extract (skip d k) (ci d (skip d k))).toList=[]:=by simpa using e
        have:=congrArg List.length e;rw[ByteArray.toList_eq]at this;have hs:ci d (skip d k)-skip d k=0∨d.size-skip d k=0:=by simpa using this
        omega
theorem FF(nm d:ByteArray)(f:Nat):∀k,k<=d.size->d.size-k+1<=f ->
    bJ true (lu nm d k)=(if aG (aQ d k).1=true then bJ false (lu nm d (aQ d k).2) else [j8 nm d (aQ d k).1]):=by
  induction f with
  | zero=>intro k _ h;omega
  | succ f ih =>
    intro k hk hf;have hl:=fq d k hk;obtain⟨t1,t2⟩:=pY d k hk
    cases hw:aG (bi d k).1
    · obtain⟨e1,e2⟩:=t2 hw
      rw[iU nm d k hw]
      cases hfn:(bi d k).1.fin
      · have hr:((bi d k).1.rule==0)=false:=by
          unfold aG at hw;rw[hfn]at hw;simpa using hw
        rw[rN d k hw hfn,hw,if_neg (by simp),bJ,if_pos (by exact hr)];rw[bJ]
      · rw[pZ d k hw hfn,if_neg (by simp[aG]),bJ,if_neg (by simp[j8,e2 hfn]),if_neg (by simp[j8,Ac,e1]),if_pos (by simp[j8,Ac,e1]),bJ]
        rfl
    · obtain⟨e1,e2⟩:=t1 hw
      have hl2:=hl.2.2 hw;rw[jZ nm d k hk hw]
      cases hc:((bi d k).1.text.toList == [36,41])
      · cases hb:jt (bi d k).1.text
        · rw[uw d k hk hw hc hb,bJ,if_neg (by simp[j8,e2]),if_neg (by simp only[j8,Ac];rw[hc];simp),if_neg (by simp only[j8,Ac];rw[e1];simp),if_neg (by rw[<-rP];simp only[j8];rw[hb];simp)]
          exact ih _ hl.2.1 (by omega)
        · rw[pL d k hw hc hb,if_neg (by simp[aG]),bJ,if_neg (by simp[j8,e2]),if_neg (by simp only[j8,Ac];rw[hc];simp),if_neg (by simp only[j8,Ac];rw[e1];simp),if_pos (by rw[<-rP];exact hb)]
          rfl
      · rw[oI d k hw hc,if_pos hw,bJ,if_neg (by simp[j8,e2]),if_pos (by simp only[j8,Ac];exact hc)]
theorem DH(nm d:ByteArray)(f:Nat):∀k,k<=d.size->d.size-k+1<=f->bJ false (lu nm d k)=kz nm d k:=by
  induction f with
  | zero=>intro k _ h;omega
  | succ f ih =>
    intro k hk hf;have hl:=fq d k hk;obtain⟨t1,t2⟩:=pY d k hk
    cases hw:aG (bi d k).1
    · obtain⟨e1,e2⟩:=t2 hw
      have hn:=pj d k (Or.inl hw);rw[iU nm d k hw,i6 nm d k (by rw[hn];exact hw),hn,bJ,if_neg (by simp[j8,Ac,e1]),bJ]
    · have hl2:=hl.2.2 hw
      rw[jZ nm d k hk hw]
      cases hc:((bi d k).1.text.toList == [36,40])
      · have hn:=pj d k (Or.inr hc)
        rw[iV nm d k hk (by rw[hn];exact hw),hn,bJ,if_neg (by simp only[j8,Ac];rw[hc];simp),ih _ hl.2.1 (by omega)]
      · have hcl:=hZ d (bi d k).2 hl.2.1
        rw[bJ,if_pos (by simp only[j8,Ac];exact hc),FF nm d _ _ hl.2.1 (Nat.le_refl _)]
        cases hcw:aG (aQ d (bi d k).2).1
        · have hn:=rR d k hw hc hcw
          rw[if_neg (by simp),i6 nm d k (by rw[hn];exact hcw),hn]
        · have hn:=CB d k hk hw hc hcw
          rw[if_pos rfl,ih _ hcl.2 (by omega)];exact(Ax nm d k _ hk hcl.2 hn).symm
theorem vV(fs:Fs)(k:Nat):oK fs k=kz (aC fs k) (aj fs k) 0:=by
  unfold oK;rw[BA];exact DH _ _ _ 0 (Nat.zero_le _) (Nat.le_refl _)
theorem gJ(T U:List Tk)(i:Nat)(h:i<T.length):tS (T++U) i=tS T i:=by
 unfold tS;rw[List.getD_eq_getElem?_getD,List.getD_eq_getElem?_getD,List.getElem?_append_left h]
theorem qo(T:List Tk)(t:Tk):tS (T++[t]) T.length=t.s:=by
 unfold tS;rw[List.getD_eq_getElem?_getD,List.getElem?_append_right (Nat.le_refl _),Nat.sub_self];rfl
theorem wY(T U:List Tk)(b:Nat)(h:b+1<T.length):ed (T++U) b=ed T b:=by
 unfold ed;rw[gJ T U b (by omega),gJ T U (b+1) h,List.length_append];have e1:decide (T.length+U.length<=b+1)=false:=by simp;omega
 have e2:decide (T.length<=b+1)=false:=by simp;omega
 rw[e1,e2]
theorem EP(T U:List Tk)(b i:Nat)(hb:b<=i)(hi:i<T.length)(he:bY (tS T i)=true):ed (T++U) b=ed T b:=by
 by_cases e:b=i
 ·subst e
  unfold ed;rw[gJ T U b hi,(ko he).1];simp
 ·exact wY T U b (by omega)
theorem tR(T U:List Tk)(i:Nat)(hi:i<=T.length):dV (T++U) i=dV T i:=by
 induction i with
 | zero=>rfl
 | succ i ih =>
  rw[dV,dV,ih (by omega),gJ T U i (by omega)]
  cases he:bY (tS T i)
  ·rfl
  ·rw[EP T U _ i (Gl T i) (by omega) he]
theorem Al(T:List Tk)(i k:Nat):∃M,(dV T (i+k)).1=(dV T i).1++M/\∀m∈M,i<m.z:=by
 induction k with
 | zero=>exact⟨[],by simp,by simp⟩
 | succ k ih =>
  obtain⟨M,h1,h2⟩:=ih;rw[show i+(k+1)=(i+k)+1 by omega,dV]
  split
  ·refine⟨M++[⟨(dV T (i+k)).2,i+k+1,(ed T (dV T (i+k)).2).2,(ed T (dV T (i+k)).2).1⟩],by simp only[h1,List.append_assoc],fun m hm=>?_⟩
   rcases List.mem_append.1 hm with h | h
   ·exact h2 m h
   ·rw[List.mem_singleton.1 h];show i<i+k+1;omega
  ·exact⟨M,h1,h2⟩
theorem wD(T U:List Tk):∃M,as (T++U)=as T++M/\∀m∈M,T.length<m.z:=by
 obtain⟨M,h1,h2⟩:=Al (T++U) T.length U.length;refine⟨M,?_,h2⟩;unfold as;rw[List.length_append,h1,tR T U _ (Nat.le_refl _)]
def gj(T:List Tk):Nat:=(dV T T.length).2
theorem Bd(T:List Tk):gj T=ji (as T) (as T).length:=(fI T).fr
theorem pn(T:List Tk)(t:Tk):as (T++[t])=(if bY t.s=true then as T++[⟨gj T,T.length+1,(ed (T++[t]) (gj T)).2,(ed (T++[t]) (gj T)).1⟩] else as T)/\gj (T++[t])=(if bY t.s=true then T.length+1 else gj T):=by
 unfold as gj;rw[List.length_append,List.length_cons,List.length_nil,dV,tR T [t] T.length (Nat.le_refl _),qo]
 split <;> exact⟨rfl,rfl⟩
theorem ke(S M:List Sm)(j:Nat)(h:j<S.length):au (S++M) j=au S j:=by
 unfold au;rw[List.getD_eq_getElem?_getD,List.getD_eq_getElem?_getD,List.getElem?_append_left h]
theorem ym(S M:List Sm)(n:Nat)(h:n<=S.length):ji (S++M) n=ji S n:=by
 unfold ji
 split
 ·rw[ke S M (n-1) (by omega)]
 ·rfl
theorem Cr(i:Nat)(S M:List Sm)(h:∀m∈M,i<m.z):lN i (S++M)=lN i S:=by
 induction S with
 | nil =>
  cases M with
  | nil=>rfl
  | cons m M =>
   have:=h m (by simp)
   show(if m.z<=i then lN i M+1 else 0)=0
   rw[if_neg (by omega)]
 | cons s S ih=>rw[List.cons_append,lN,lN,ih]
theorem oV(S M:List Sm)(j n:Nat)(h:n<=S.length):bB (S++M) j n=bB S j n:=by
 unfold bB
 by_cases hj:j<=S.length
 ·rw[List.drop_append_of_le_length hj,List.take_append_of_le_length (by rw[List.length_drop];omega)]
 ·rw[show n-j=0 by omega];simp
theorem j5(S M:List Sm)(n:Nat)(h:n<=S.length):bF (S++M) n=bF S n:=by
 unfold bF;rw[List.take_append_of_le_length h]
theorem vO(L M:List Tk)(h:∃u∈L,lH u.s=true):ln (L++M)=ln L:=by
 induction L with
 | nil=>obtain⟨u,hu,-⟩:=h;cases hu
 | cons a L ih =>
  rw[List.cons_append,ln,ln]
  split
  ·rfl
  ·next hs =>
   rw[ih];obtain⟨u,hu,h2⟩:=h
   rcases List.mem_cons.1 hu with rfl | hu
   ·exact absurd h2 hs
   ·exact⟨u,hu,h2⟩
theorem DJ{T:List Tk}{h:Nat}(hs:eE T h):∃u∈T.drop h,lH u.s=true:=by
 obtain⟨e,h1,h2,h3⟩:=hs;refine⟨T[e],?_,?_⟩
 ·rw[List.mem_iff_getElem?]
  exact⟨e-h,by rw[List.getElem?_drop,show h+(e-h)=e by omega,List.getElem?_eq_getElem h2]⟩
 ·unfold tS at h3
  rw[List.getD_eq_getElem?_getD,List.getElem?_eq_getElem h2]at h3;exact h3
theorem t7(T U:List Tk)(h:Nat)(hs:eE T h):bV (T++U) h=bV T h:=by
 have hl:h<=T.length:=by obtain⟨e,h1,h2,-⟩:=hs;omega
 unfold bV;rw[List.drop_append_of_le_length hl,vO _ _ (DJ hs)]
theorem jU{n:Nat}{p q:Nat->Bool}(h:∀j,j<n->p j=q j):(List.range n).any p=(List.range n).any q:=by
 rw[Bool.eq_iff_iff,List.any_eq_true,List.any_eq_true]
 constructor
 ·rintro ⟨j,hj,h1⟩;exact⟨j,hj,by rw[<-h j (List.mem_range.1 hj)];exact h1⟩
 ·rintro ⟨j,hj,h1⟩;exact⟨j,hj,by rw[h j (List.mem_range.1 hj)];exact h1⟩
theorem sY{l:List Nat}{p q:Nat->Bool}(h:∀j∈l,p j=q j):l.find? p=l.find? q:=by
 induction l with
 | nil=>rfl
 | cons a l ih =>
  rw[List.find?_cons,List.find?_cons,h a (by simp),ih (fun j hj=>h j (by simp[hj]))]
section
variable {T U:List Tk} {S M:List Sm} {n:Nat}
theorem uF(key x:ByteArray)(act:Bool)(hn:n<=S.length)(hk:∀j,j<n->((au S j).k.toList==key.toList)=true->eE T (au S j).h):io (T++U) (S++M) key x n act=io T S key x n act:=by
 unfold io;refine jU (fun j hj=>?_);unfold nV;rw[ke S M j (by omega),oV S M j n hn]
 cases h:((au S j).k.toList==key.toList)
 ·rfl
 ·rw[t7 T U _ (hk j hj h)]
theorem rt(x:ByteArray)(ok:jh T S n):dL (T++U) (S++M) x n=dL T S x n:=uF _ x _ ok.m (by rw[mg.1];exact ok.c)
theorem Cz(x:ByteArray)(ok:jh T S n):jE (T++U) (S++M) x n=jE T S x n:=uF _ x _ ok.m (by rw[mg.2];exact ok.v)
theorem vD(s:Sm)(h:s.a<T.length):cg (T++U) s=cg T s:=by
 unfold cg;rw[gJ T U s.a h]
theorem pO(x:ByteArray)(ok:jh T S n):bn (T++U) (S++M) x n=bn T S x n:=by
 unfold bn
 rw[sY (q:=oB T S x) (fun j hj=>by
  have hj:=List.mem_range.1 hj;have:=ok.m;unfold oB;rw[ke S M j (by omega),vD _ (ok.a j hj)])]
theorem vx(x:ByteArray)(ok:jh T S n):iC (T++U) (S++M) x n=iC T S x n:=by
 unfold iC;rw[pO x ok,rt x ok,uF _ x _ ok.m (by rw[mg.2];exact ok.v)]
theorem DE(x:ByteArray)(ok:jh T S n)(hf:kH T S n):fh (T++U) (S++M) x n=fh T S x n:=by
 unfold fh
 rw[sY (q:=qK T S x n) (fun j hj=>by
  have hj:=List.mem_range.1 hj;have:=ok.m;unfold qK;rw[ke S M j (by omega),oV S M j n ok.m]
  cases h:((au S j).k.toList == [36,102])
  ·rfl
  ·rw[gJ T U _ (hf j hj h)])]
theorem DV(x:ByteArray)(con:Bool)(B:List ByteArray)(ok:jh T S n):iZ (T++U) (S++M) x n con B=iZ T S x n con B:=by
 unfold iZ;rw[vx x ok,pO x ok,rt x ok,Cz x ok]
theorem AH(key x:ByteArray)(B:List ByteArray)(ok:jh T S n)(hf:kH T S n):id (T++U) (S++M) key x n B=id T S key x n B:=by
 unfold id;rw[rt x ok,Cz x ok,DE x ok hf]
theorem zu(key x:ByteArray)(B:List ByteArray)(ok:jh T S n)(hf:kH T S n):kl (T++U) (S++M) key x n B=kl T S key x n B:=by
 unfold kl;rw[DV x _ B ok,AH key x B ok hf]
theorem v7(x:ByteArray)(ok:jh T S n):cZ (T++U) (S++M) x n=cZ T S x n:=by
 unfold cZ;rw[j5 S M n ok.m,vx x ok]
end
theorem C3(T U:List Tk)(h i:Nat)(hh:h<=i)(hi:i<=T.length):eF (T++U) h i=eF T h i:=by
 unfold eF;rw[List.drop_append_of_le_length (by omega),List.take_append_of_le_length (by rw[List.length_drop];omega)]
theorem tx(T U:List Tk)(hT:T.length<=100000)(i:Nat)(hi:i<T.length)(hall:∀j,j<i->a9 T (as T) j=0):a9 (T++U) (as (T++U)) i=a9 T (as T) i:=by
 obtain⟨ok,hf⟩:=JV T hT i hi hall;obtain⟨M,hM,hz⟩:=wD T U;rw[hM];generalize as T=S at *;have hc:gW (S++M) i=gW S i:=Cr i S M (fun m hm=>by have:=hz m hm;omega);have hb:=Hh S i;unfold a9;rw[hc,ym S M _ ok.m,gJ T U i hi]
 by_cases e:i=ji S (gW S i)
 ·rw[if_pos e,if_pos e,v7 _ ok]
 ·rw[if_neg e,if_neg e,wY T U _ (by omega)]
  split
  ·rfl
  ·next hh =>
   rw[zu _ _ _ ok hf,C3 T U _ i (by omega) (by omega)]
theorem pD(T U:List Tk)(hT:T.length<=100000)(h:∀j,j<T.length->a9 T (as T) j=0):∀j,j<T.length->a9 (T++U) (as (T++U)) j=0:=fun j hj=>by
 rw[tx T U hT j hj (fun q hq=>h q (by omega))];exact h j hj
def rZ(o:Int)(L:List Sm):Int:=L.foldl (fun o s=>aY o s.k) o
theorem wa(o c:Int)(k:ByteArray):aY (o+c) k=aY o k+c:=by
 unfold aY
 split <;> split <;> omega
theorem x9(L:List Sm):∀o c,rZ (o+c) L=rZ o L+c:=by
 induction L with
 | nil=>intro o c;rfl
 | cons s L ih =>
  intro o c
  show rZ (aY (o+c) s.k) L=rZ (aY o s.k) L+c
  rw[wa,ih]
theorem DG(L:List Sm)(s:Sm):∀o,ov o (L++[s])=(ov o L&&decide (0<=rZ o (L++[s]))):=by
 induction L with
 | nil =>
  intro o
  show(if aY o s.k<0 then false else ov (aY o s.k) [])=(ov o []&&decide (0<=aY o s.k))
  simp only[ov]
  by_cases h:aY o s.k<0
  ·rw[if_pos h];simp;omega
  ·rw[if_neg h];simp;omega
 | cons a L ih =>
  intro o;rw[List.cons_append,ov,ov]
  by_cases h:aY o a.k<0
  ·rw[if_pos h,if_pos h];rfl
  ·rw[if_neg h,if_neg h,ih];rfl
theorem Bz(S:List Sm)(j n:Nat)(hj:j<=n):rZ 0 ((S.drop j).take (n-j))=bF S n-bF S j:=by
 have e:S.take n=S.take j++(S.drop j).take (n-j):=by
  rw[show n=j+(n-j) by omega,List.take_add];simp
 have h2:bF S n=rZ (bF S j) ((S.drop j).take (n-j)):=by
  unfold bF rZ;rw[e,List.foldl_append]
 have:=x9 ((S.drop j).take (n-j)) 0 (bF S j);rw[Int.zero_add]at this;omega
theorem tU(S:List Sm)(j n:Nat)(hj:j<=n)(hn:n<S.length):bB S j (n+1)=(bB S j n&&decide (bF S j<=bF S (n+1))):=by
 have e:(S.drop j).take (n+1-j)=(S.drop j).take (n-j)++[S[n]]:=by
  rw[show n+1-j=(n-j)+1 by omega,List.take_succ_eq_append_getElem (by rw[List.length_drop];omega),List.getElem_drop]
  congr 3;omega
 have hf:=Bz S j (n+1) (by omega);unfold bB;rw[e]at hf ⊢;rw[DG,hf]
 congr 1
 rw[decide_eq_decide];omega
theorem Fx(S:List Sm)(j:Nat):bB S j j=true:=by
 unfold bB;rw[Nat.sub_self,List.take_zero,ov]
theorem GB(S:List Sm)(j n:Nat)(hj:j<=n)(hn:n<=S.length)(h:bB S j n=true):∀m,j<=m->m<=n->bF S j<=bF S m:=by
 induction n with
 | zero=>intro m h1 h2;have e:m=j:=by omega
      rw[e];exact Int.le_refl _
 | succ n ih =>
  intro m h1 h2
  by_cases e:j=n+1
  ·have e:m=j:=by omega
   rw[e];exact Int.le_refl _
  ·rw[tU S j n (by omega) (by omega),Bool.and_eq_true,decide_eq_true_eq]at h
   by_cases e2:m=n+1
   ·rw[e2];exact h.2
   ·exact ih (by omega) (by omega) h.1 m h1 (by omega)
def je(S:List Sm)(n:Nat):List Nat:=(List.range n).filter (fun j=>bB S j n)
theorem f8{S:List Sm}{n j:Nat}(h:j∈je S n):j<n:=List.mem_range.1 (List.mem_filter.1 h).1
theorem AB(S:List Sm)(n:Nat)(hn:n<=S.length):(je S n).Pairwise (fun a b=>bF S a<=bF S b):=by
 have h:=(List.pairwise_lt_range (n:=n)).filter (fun j=>bB S j n);refine h.imp_of_mem (fun {a b} ha hb hab=>?_);have hb:=f8 hb;exact GB S a n (by omega) hn (List.mem_filter.1 ha).2 b (by omega) (by omega)
theorem Br{f:Nat->Int}(c:Int)(l:List Nat)(h:l.Pairwise (fun a b=>f a<=f b)):l=l.filter (fun j=>decide (f j<=c))++l.filter (fun j=>!decide (f j<=c)):=by
 induction l with
 | nil=>rfl
 | cons a l ih =>
  obtain⟨h1,h2⟩:=List.pairwise_cons.1 h;have ih:=ih h2
  by_cases ha:f a<=c
  ·rw[List.filter_cons_of_pos (by simpa using ha),List.filter_cons_of_neg (by simpa using ha),List.cons_append,<-ih]
  ·have e:l.filter (fun j=>decide (f j<=c))=[]:=by
    rw[List.filter_eq_nil_iff];intro b hb;have:=h1 b hb;simp;omega
   rw[List.filter_cons_of_neg (by simpa using ha),List.filter_cons_of_pos (by simpa using ha),e];rw[e]at ih;rw[List.nil_append]at ih ⊢;rw[<-ih]
theorem pA{n:Nat}{p q:Nat->Bool}(h:∀j,j<n->p j=q j):(List.range n).filter p=(List.range n).filter q :=
 List.filter_congr (fun j hj=>h j (List.mem_range.1 hj))
theorem lk(S:List Sm)(s:Sm):bF (S++[s]) (S.length+1)=aY (bF S S.length) s.k:=by
 rw[rO (S++[s]) S.length (by simp),j5 S [s] _ (Nat.le_refl _)]
 congr 2
 simp
theorem pg(S:List Sm)(s:Sm):je (S++[s]) (S.length+1)=(je S S.length).filter (fun j=>decide (bF S j<=aY (bF S S.length) s.k))++(if 0<=aY 0 s.k then [S.length] else []):=by
 unfold je;rw[List.range_succ,List.filter_append,List.filter_filter]
 congr 1
 ·refine pA (fun j hj=>?_)
  rw[tU (S++[s]) j S.length (by omega) (by simp),oV S [s] j _ (Nat.le_refl _),j5 S [s] j (by omega),lk,Bool.and_comm]
 ·have e:bB (S++[s]) S.length (S.length+1)=decide (0<=aY 0 s.k):=by
   rw[tU (S++[s]) S.length S.length (Nat.le_refl _) (by simp),Fx,j5 S [s] _ (Nat.le_refl _),lk,Bool.true_and,decide_eq_decide];have:=wa 0 (bF S S.length) s.k;rw[Int.zero_add]at this;omega
  by_cases h:0<=aY 0 s.k
  ·rw[if_pos h,List.filter_cons_of_pos (by rw[e];simpa using h)];rfl
  ·rw[if_neg h,List.filter_cons_of_neg (by rw[e];simpa using h)];rfl
theorem Fe{S:List Sm}{n j:Nat}(hn:n<=S.length)(h:j∈je S n):bF S j<=bF S n:=by
 have hl:=f8 h;exact GB S j n (by omega) hn (List.mem_filter.1 h).2 n (by omega) (Nat.le_refl _)
structure qs(F:Nat->List ByteArray)(S:List Sm)(L:List ByteArray)(B:List Nat):Prop where
 l:L=(je S S.length).flatMap F
 b:(B.length:Int)=bF S S.length
 o:∀i,i<B.length->B[i]?=some (((je S S.length).filter (fun j=>decide (bF S j<=(i:Int)))).flatMap F).length
theorem dj{l:List Nat}{F G:Nat->List ByteArray}(h:∀j∈l,F j=G j):l.flatMap F=l.flatMap G:=by
 induction l with
 | nil=>rfl
 | cons a l ih=>rw[List.flatMap_cons,List.flatMap_cons,h a (by simp),ih (fun j hj=>h j (by simp[hj]))]
theorem pd{S:List Sm}{n:Nat}(hn:n<=S.length){c:Int}(hc:bF S n<=c):(je S n).filter (fun j=>decide (bF S j<=c))=je S n :=
 List.filter_eq_self.2 (fun j hj=>by have:=Fe hn hj;simp;omega)
theorem ew(S:List Sm)(s:Sm):(S++[s]).length=S.length+1:=by simp
theorem ni{S:List Sm}{s:Sm}{n:Nat}(hn:n<=S.length)(c:Int):(je S n).filter (fun j=>decide (bF (S++[s]) j<=c))=(je S n).filter (fun j=>decide (bF S j<=c)) :=
 List.filter_congr (fun j hj=>by rw[j5 S [s] j (by have:=f8 hj;omega)])
theorem qs.norm{F F':Nat->List ByteArray}{S:List Sm}{L:List ByteArray}{B:List Nat}(h:qs F S L B)(s:Sm)(hs:∀o,aY o s.k=o)(hF:∀j,j<S.length->F' j=F j):qs F' (S++[s]) (L++F' S.length) B:=by
 have e:=pg S s;rw[hs,hs,if_pos (Int.le_refl _),pd (Nat.le_refl _) (Int.le_refl _)]at e;have hb:=h.b;refine⟨?_,?_,fun i hi=>?_⟩
 ·rw[ew,e,List.flatMap_append,h.l,dj (fun j hj=>hF j (f8 hj))];simp
 ·rw[ew,lk,hs];exact hb
 ·rw[ew,e,List.filter_append,ni (Nat.le_refl _),List.filter_cons_of_neg (by rw[j5 S [s] _ (Nat.le_refl _)];simp;omega),List.filter_nil,List.append_nil,dj (fun j hj=>hF j (f8 (List.mem_filter.1 hj).1))]
  exact h.o i hi
theorem qs.push{F F':Nat->List ByteArray}{S:List Sm}{L:List ByteArray}{B:List Nat}(h:qs F S L B)(s:Sm)(hs:∀o,aY o s.k=o+1)(hF:∀j,j<S.length->F' j=F j)(h0:F' S.length=[]):qs F' (S++[s]) L (B++[L.length]):=by
 have e:=pg S s;rw[hs,hs,if_pos (by omega),pd (Nat.le_refl _) (by omega)]at e;have hb:=h.b
 have one:∀p:Nat->Bool,([S.length].filter p).flatMap F'=[]:=fun p=>by
  rw[List.flatMap_eq_nil_iff];intro j hj;have:=List.mem_singleton.1 (List.mem_filter.1 hj).1;rw[this];exact h0
 refine⟨?_,?_,fun i hi=>?_⟩
 ·rw[ew,e,List.flatMap_append,h.l,dj (fun j hj=>hF j (f8 hj))];simp[h0]
 ·rw[ew,lk,hs];simp;omega
 ·rw[ew,e,List.filter_append,ni (Nat.le_refl _),List.flatMap_append,one,List.append_nil,dj (fun j hj=>hF j (f8 (List.mem_filter.1 hj).1))]
  simp only[List.length_append,List.length_cons,List.length_nil]at hi
  by_cases hi2:i<B.length
  ·rw[List.getElem?_append_left hi2];exact h.o i hi2
  ·have e2:i=B.length:=by omega
   rw[e2,List.getElem?_append_right (Nat.le_refl _),Nat.sub_self,pd (Nat.le_refl _) (by omega),<-h.l];rfl
theorem qs.pop{F F':Nat->List ByteArray}{S:List Sm}{L:List ByteArray}{B:List Nat}{q:Nat}(h:qs F S L (B++[q]))(s:Sm)(hs:∀o,aY o s.k=o-1)(hF:∀j,j<S.length->F' j=F j):qs F' (S++[s]) (L.take q) B:=by
 have e:=pg S s;rw[hs,hs,if_neg (by omega),List.append_nil]at e;have hb:=h.b;simp only[List.length_append,List.length_cons,List.length_nil]at hb;have hd:bF S S.length-1=(B.length:Int):=by omega
 rw[hd]at e;have hq:=h.o B.length (by simp);rw[List.getElem?_append_right (Nat.le_refl _),Nat.sub_self]at hq;have hq:q=(((je S S.length).filter (fun j=>decide (bF S j<=(B.length:Int)))).flatMap F).length:=by simpa using hq
 refine⟨?_,?_,fun i hi=>?_⟩
 ·rw[ew,e,dj (G:=F) (fun j hj=>hF j (f8 (List.mem_filter.1 hj).1))]
  have hl:=h.l;rw[Br (f:=bF S) (B.length:Int) (je S S.length) (AB S _ (Nat.le_refl _)),List.flatMap_append]at hl;rw[hl,hq,List.take_append_of_le_length (Nat.le_refl _),List.take_length]
 ·rw[ew,lk,hs];omega
 ·rw[ew,e,List.filter_filter]
  have e3:(je S S.length).filter (fun j=>decide (bF (S++[s]) j<=(i:Int))&&decide (bF S j<=(B.length:Int)))=(je S S.length).filter (fun j=>decide (bF S j<=(i:Int))) :=
   List.filter_congr (fun j hj=>by
    rw[j5 S [s] j (by have:=f8 hj;omega)]
    by_cases hh:bF S j<=(i:Int)
    ·have h2:bF S j<=(B.length:Int):=by omega
     simp[hh,h2]
    ·simp[hh])
  rw[e3,dj (G:=F) (fun j hj=>hF j (f8 (List.mem_filter.1 hj).1))];have:=h.o i (by simp;omega);rw[List.getElem?_append_left hi]at this;exact this
def zi(T:List Tk)(S:List Sm)(j:Nat):List ByteArray:=if((au S j).k.toList == [36,118])=true then bV T (au S j).h else []
def EY(T:List Tk)(S:List Sm)(j:Nat):List ByteArray:=if((au S j).k.toList == [36,99])=true then bV T (au S j).h else []
def Di(T:List Tk)(S:List Sm)(j:Nat):List ByteArray:=if((au S j).k.toList == [36,102])=true then [tS T ((au S j).h+1)] else []
def Ii(T:List Tk)(S:List Sm)(j:Nat):List ByteArray:=if((cg T (au S j)).toList == [])=true then [] else [cg T (au S j)]
theorem nT(F:Nat->List ByteArray)(l:List Nat)(x:ByteArray):aI (l.flatMap F) x=l.any (fun j=>aI (F j) x):=by
 unfold aI;rw[List.any_flatMap]
theorem gK(x:ByteArray):aI [] x=false:=rfl
theorem tA(l m:List ByteArray)(x:ByteArray):aI (l++m) x=(aI l x||aI m x):=by
 unfold aI;rw[List.any_append]
theorem qV(y x:ByteArray):aI [y] x=(y.toList==x.toList):=by simp[aI]
theorem rD(l:List Nat)(p q:Nat->Bool):(l.filter p).any q=l.any (fun j=>p j&&q j):=by
 rw[List.any_filter]
theorem CN(T:List Tk)(S:List Sm)(x:ByteArray)(n:Nat):jE T S x n=aI ((je S n).flatMap (zi T S)) x:=by
 rw[nT];unfold je;rw[rD];unfold jE io;refine jU (fun j hj=>?_);unfold nV zi;rw[mg.2]
 cases h:((au S j).k.toList == [36,118])
 ·rw[if_neg (by simp),gK];simp
 ·rw[if_pos rfl];simp[Bool.and_comm]
theorem qS(T:List Tk)(S:List Sm)(x:ByteArray)(n:Nat):dL T S x n=aI ((List.range n).flatMap (EY T S)) x:=by
 rw[nT];unfold dL io;refine jU (fun j hj=>?_);unfold nV EY;rw[mg.1]
 cases h:((au S j).k.toList == [36,99])
 ·rw[if_neg (by simp),gK];simp
 ·rw[if_pos rfl];simp
theorem AJ(T:List Tk)(S:List Sm)(x:ByteArray)(n:Nat):io T S ⟨#[36,118]⟩ x n false=aI ((List.range n).flatMap (zi T S)) x:=by
 rw[nT];unfold io;refine jU (fun j hj=>?_);unfold nV zi;rw[mg.2]
 cases h:((au S j).k.toList == [36,118])
 ·rw[if_neg (by simp),gK];simp
 ·rw[if_pos rfl];simp
theorem Jp(l:List Nat)(p:Nat->Bool):(match l.find? p with | some j=>(j:Int) | none=>-1)=-1 ↔ l.any p=false:=by
 cases h:l.find? p with
 | none=>simp only[true_iff];rw[List.any_eq_false];rw[List.find?_eq_none]at h;exact h
 | some j =>
  have h1:=List.find?_some h;have h2:=List.mem_of_find?_eq_some h;have h3:l.any p=true:=List.any_eq_true.2 ⟨j,h2,h1⟩;rw[h3];simp only[Bool.true_eq_false,iff_false];intro h4;have:(0:Int)<=(j:Int):=by omega
  omega
theorem Cl(l:List Nat)(p:Nat->Bool):decide (0<=(match l.find? p with | some j=>(j:Int) | none=>-1))=l.any p:=by
 cases h:l.find? p with
 | none =>
  have:=(Jp l p).1 (by rw[h]);rw[this];rfl
 | some j =>
  have h3:l.any p=true:=List.any_eq_true.2 ⟨j,List.mem_of_find?_eq_some h,List.find?_some h⟩;rw[h3];simp
theorem pV(T:List Tk)(S:List Sm)(x:ByteArray)(n:Nat):decide (0<=bn T S x n)=aI ((List.range n).flatMap (Ii T S)) x:=by
 rw[nT];unfold bn;refine(Cl (List.range n) (oB T S x)).trans ?_;refine jU (fun j hj=>?_);unfold oB Ii
 cases h:((cg T (au S j)).toList == [])
 ·rw[if_neg (by simp),qV];simp
 ·rw[if_pos rfl,gK];simp
theorem Dn(T:List Tk)(S:List Sm)(x:ByteArray)(n:Nat):decide (0<=fh T S x n)=aI ((je S n).flatMap (Di T S)) x:=by
 rw[nT];unfold je;rw[rD];unfold fh;refine(Cl (List.range n) (qK T S x n)).trans ?_;refine jU (fun j hj=>?_);unfold qK Di
 cases h:((au S j).k.toList == [36,102])
 ·rw[if_neg (by simp),gK];simp
 ·rw[if_pos rfl,qV];simp[Bool.and_comm]
theorem Bi(T:List Tk)(hT:T.length<=100000)(hall:∀j,j<T.length->a9 T (as T) j=0):jh T (as T) (as T).length/\kH T (as T) (as T).length:=by
 have p:=fI T;have hl:(as T).length<=T.length:=sM T T.length;generalize as T=S at *;have hw:=fun j (hj:j<S.length)=>zc p j hj (fun q _ h2=>hall q (by have:=(p.s j hj).2;omega))
 refine⟨⟨Nat.le_refl _,by omega,hT,fun j hj=>(hw j hj).1,fun j hj=>(hw j hj).2.1,fun j hj=>?_⟩,fun j hj=>(hw j hj).2.2⟩;have:=(p.s j hj).1.lt;have:=(p.s j hj).2;omega
structure so(T:List Tk)(S:List Sm)(d:Db):Prop where
 con:d.constants=(List.range S.length).flatMap (EY T S)
 var:∀x,aI d.variables x=aI ((List.range S.length).flatMap (zi T S)) x
 act:qs (zi T S) S d.active (d.blocks.map (·.1))
 typ:qs (Di T S) S d.typed (d.blocks.map (·.2))
def jI(T:List Tk)(S:List Sm):List ByteArray:=(List.range S.length).flatMap (Ii T S)
inductive KeyK:List UInt8->Int->Prop
 | c:KeyK [36,99] 7
 | v:KeyK [36,118] 8
 | d:KeyK [36,100] 1
 | f:KeyK [36,102] 2
 | e:KeyK [36,101] 3
 | a:KeyK [36,97] 4
 | p:KeyK [36,112] 5
def jF(y:ByteArray):Bool:=!(y.toList == [36,61])
inductive OpE (T:List Tk) (d:Db):Prop
 | none:gj T=T.length->d.kind=0->d.symbols=[]->d.inProof=false->d.labels=jI T (as T)->OpE T d
 | lab:gj T+1=T.length->d.kind=6->d.symbols=[]->d.inProof=false->d.labels=jI T (as T)++[tS T (gj T)]->((tS T (gj T)).toList == [])=false->fZ (tS T (gj T)) ⟨#[36]⟩=false->OpE T d
 | body (key:ByteArray) (head:Nat) (B:List ByteArray):ed T (gj T)=(key,head)->gj T<head->head<=T.length->KeyK key.toList d.kind->eF T head T.length=B->d.inProof=aI B ⟨#[36,61]⟩->d.symbols=B.takeWhile jF->(d.inProof=true->d.kind=5/\d.symbols≠[]) ->
   d.labels=jI T (as T)++(if(aE key||aH key)=true then [tS T (gj T)] else [])->((aE key||aH key)=true->((tS T (gj T)).toList == [])=false)->OpE T d
theorem qs.congr{F F':Nat->List ByteArray}{S:List Sm}{L:List ByteArray}{B:List Nat}(h:qs F S L B)(hF:∀j,j<S.length->F' j=F j):qs F' S L B :=
 ⟨by rw[dj (G:=F) (fun j hj=>hF j (f8 hj))];exact h.l,h.b,fun i hi=>by rw[dj (G:=F) (fun j hj=>hF j (f8 (List.mem_filter.1 hj).1))];exact h.o i hi⟩
section
variable {T U:List Tk} {S M:List Sm}
theorem mX(ok:jh T S S.length)(j:Nat)(hj:j<S.length):zi (T++U) (S++M) j=zi T S j:=by
 unfold zi;rw[ke S M j hj]
 split
 ·next h=>rw[t7 T U _ (ok.v j hj h)]
 ·rfl
theorem sG(ok:jh T S S.length)(j:Nat)(hj:j<S.length):EY (T++U) (S++M) j=EY T S j:=by
 unfold EY;rw[ke S M j hj]
 split
 ·next h=>rw[t7 T U _ (ok.c j hj h)]
 ·rfl
theorem sC(hf:kH T S S.length)(j:Nat)(hj:j<S.length):Di (T++U) (S++M) j=Di T S j:=by
 unfold Di;rw[ke S M j hj]
 split
 ·next h=>rw[gJ T U _ (hf j hj h)]
 ·rfl
theorem C9(ok:jh T S S.length)(j:Nat)(hj:j<S.length):Ii (T++U) (S++M) j=Ii T S j:=by
 unfold Ii;rw[ke S M j hj,vD _ (ok.a j hj)]
end
theorem mP{F F':Nat->List ByteArray}{n:Nat}(h:∀j,j<n->F' j=F j):(List.range n).flatMap F'=(List.range n).flatMap F:=dj (fun j hj=>h j (List.mem_range.1 hj))
theorem dY{F F':Nat->List ByteArray}{n:Nat}(h:∀j,j<n->F' j=F j):(List.range (n+1)).flatMap F'=(List.range n).flatMap F++F' n:=by
 rw[List.range_succ,List.flatMap_append,mP h];simp
theorem oc{T U:List Tk}{S:List Sm}(ok:jh T S S.length):jI (T++U) S=jI T S:=by
 unfold jI;exact mP (fun j hj=>by have:=C9 (U:=U) (M:=[]) ok j hj;rw[List.append_nil]at this;exact this)
theorem qR{T U:List Tk}{S:List Sm}(s:Sm)(ok:jh T S S.length):jI (T++U) (S++[s])=jI T S++Ii (T++U) (S++[s]) S.length:=by
 unfold jI;rw[ew];exact dY (fun j hj=>C9 ok j hj)
theorem so.same{T U:List Tk}{S:List Sm}{d d':Db}(h:so T S d)(ok:jh T S S.length)(hf:kH T S S.length)(e1:d'.constants=d.constants)(e2:d'.variables=d.variables)(e3:d'.active=d.active)(e4:d'.typed=d.typed)(e5:d'.blocks=d.blocks):so (T++U) S d':=by
 have hv:∀j,j<S.length->zi (T++U) S j=zi T S j:=fun j hj=>by have:=mX (U:=U) (M:=[]) ok j hj;rw[List.append_nil]at this;exact this
 have hc:∀j,j<S.length->EY (T++U) S j=EY T S j:=fun j hj=>by have:=sG (U:=U) (M:=[]) ok j hj;rw[List.append_nil]at this;exact this
 have hg:∀j,j<S.length->Di (T++U) S j=Di T S j:=fun j hj=>by have:=sC (U:=U) (M:=[]) hf j hj;rw[List.append_nil]at this;exact this
 exact⟨by rw[e1,mP hc];exact h.con,fun x=>by rw[e2,mP hv];exact h.var x,by rw[e3,e5];exact h.act.congr hv,by rw[e4,e5];exact h.typ.congr hg⟩
theorem mq(S:List Sm)(s:Sm):au (S++[s]) S.length=s:=rg S s
theorem so.close{T U:List Tk}{S:List Sm}{d d':Db}(h:so T S d)(ok:jh T S S.length)(hf:kH T S S.length)(s:Sm)(hs:∀o,aY o s.k=o)
  (e1:d'.constants=d.constants++EY (T++U) (S++[s]) S.length) (e2:∀x,aI d'.variables x=(aI d.variables x||aI (zi (T++U) (S++[s]) S.length) x)) (e3:d'.active=d.active++zi (T++U) (S++[s]) S.length) (e4:d'.typed=d.typed++Di (T++U) (S++[s]) S.length) (e5:d'.blocks=d.blocks):so (T++U) (S++[s]) d' :=
 ⟨by rw[ew,dY (fun j hj=>sG ok j hj),<-h.con];exact e1,fun x=>by rw[ew,dY (fun j hj=>mX ok j hj),tA,<-h.var];exact e2 x,
  by rw[e3,e5];exact h.act.norm s hs (fun j hj=>mX ok j hj),by rw[e4,e5];exact h.typ.norm s hs (fun j hj=>sC hf j hj)⟩
theorem yW(T:List Tk)(t:Tk)(hT:T.length<=100000)(hall:∀j,j<T.length->a9 T (as T) j=0):a9 (T++[t]) (as (T++[t])) T.length =
  if T.length=gj T then cZ T (as T) t.s (as T).length
  else if T.length<(ed (T++[t]) (gj T)).2 then(if(aE t.s||aH t.s)=true then 0 else 14)
  else kl T (as T) (ed (T++[t]) (gj T)).1 t.s (as T).length (eF T (ed (T++[t]) (gj T)).2 T.length):=by
 obtain⟨ok,hf⟩:=Bi T hT hall;obtain⟨M,hM,hz⟩:=wD T [t];have p:=fI T;rw[hM,Bd];generalize as T=S at *
 have hc:gW (S++M) T.length=S.length:=by
  unfold gW;rw[Cr T.length S M hz];exact Gc _ S S.length (fun q hq=>⟨au S q,CJ S q hq,(p.s q hq).2⟩) (fun s hs=>by rw[List.getElem?_eq_none (Nat.le_refl _)]at hs;cases hs)
 unfold a9;rw[hc,ym S M _ (Nat.le_refl _),qo]
 by_cases e:T.length=ji S S.length
 ·rw[if_pos e,if_pos e,v7 _ ok]
 ·rw[if_neg e,if_neg e]
  split
  ·rfl
  ·next hh=>rw[zu _ _ _ ok hf,C3 T [t] _ _ (by omega) (Nat.le_refl _)]
theorem zW{T:List Tk}{S:List Sm}{d:Db}(h:so T S d)(hl:d.labels=jI T S)(x:ByteArray):iC T S x S.length=dh d x:=by
 unfold iC dh;rw[pV,qS,AJ,<-h.con,<-h.var,hl,Bool.or_assoc];rfl
theorem EK{T:List Tk}{S:List Sm}{d:Db}(h:so T S d)(hl:d.labels=jI T S)(x:ByteArray):(decide (0<=bn T S x S.length)||(dL T S x S.length||jE T S x S.length))=dF d x:=by
 unfold dF;rw[pV,qS,CN,<-h.con,<-h.act.l,hl,Bool.or_assoc];rfl
theorem Iq{T:List Tk}{S:List Sm}{d:Db}(h:so T S d):bF S S.length=(d.blocks.length:Int):=by
 have:=h.act.b;rw[List.length_map]at this;exact this.symm
theorem uG{l:List UInt8}{k:ByteArray}(h:k.toList=l)(o:Int):aY o k=if(l == [36,125])=true then(if(l == [36,123])=true then o+1 else o)-1 else(if(l == [36,123])=true then o+1 else o):=by
 unfold aY;rw[h]
theorem kI{l:List UInt8}{k:ByteArray}(h:k.toList=l):aE k=((l == [36,97])||(l == [36,112]))/\aH k=((l == [36,102])||(l == [36,101]))/\bY k=((l == [36,46])||(l == [36,123])||(l == [36,125])):=by
 unfold aE aH bY;rw[h];exact⟨rfl,rfl,rfl⟩
theorem BC{l:List UInt8}{k:ByteArray}(h:k.toList=l):fZ k ⟨#[36]⟩=fZ ⟨l.toArray⟩ ⟨#[36]⟩:=by
 rw[mC (x:=k) (l:=l) (by rw[h];simp)]
theorem KeyK.dep{k:ByteArray}{n:Int}(h:KeyK k.toList n):(∀o,aY o k=o)/\fZ k ⟨#[36]⟩=true/\bY k=false:=by
 generalize hl:k.toList=l at h;have h1:=fun o=>uG hl o
 have h2:=BC hl;have h3:=(kI hl).2.2
 cases h <;> exact⟨fun o=>h1 o,h2.trans (by decide +kernel),h3⟩
section
variable {T:List Tk} {t:Tk} {d:Db}
theorem zR(hf:gj T=T.length)(hd:fZ t.s ⟨#[36]⟩=true):ed (T++[t]) (gj T)=(t.s,T.length+1):=by
 unfold ed;rw[hf,qo,hd];simp
theorem uA{key:ByteArray}{head:Nat}{n:Int}(hk:ed T (gj T)=(key,head))(hlt:gj T<head)(hh:head<=T.length)(hK:KeyK key.toList n):ed (T++[t]) (gj T)=(key,head):=by
 rw[<-hk]
 by_cases h:gj T+1<T.length
 ·exact wY T [t] _ h
 ·have e:ed T (gj T)=(tS T (gj T),gj T+1):=by
   unfold ed;rw[if_pos (by simp;right;omega)]
  rw[hk]at e;have e1:key=tS T (gj T):=congrArg Prod.fst e;have hs:=hK.dep.2.1;rw[e1]at hs;unfold ed;rw[gJ T [t] _ (by omega),hs];simp
theorem mQ(T:List Tk)(h:Nat):eF T h T.length=(T.drop h).map (·.s):=by
 unfold eF;rw[List.take_of_length_le (by rw[List.length_drop];exact Nat.le_refl _)]
theorem GR(t:Tk)(h:Nat)(hh:h<=T.length):eF (T++[t]) h (T++[t]).length=eF T h T.length++[t.s]:=by
 rw[mQ,mQ,List.drop_append_of_le_length hh];simp
theorem xX(L:List Tk)(t:Tk)(hL:∀u∈L,(u.s.toList == [36,46])=false)(ht:(t.s.toList == [36,46])=true):ln (L++[t])=(L.map (·.s)).takeWhile jF:=by
 induction L with
 | nil=>rw[List.nil_append,ln,if_pos (pT ht)];rfl
 | cons a L ih =>
  have h1:=hL a (by simp);rw[List.cons_append,ln,List.map_cons]
  cases h2:(a.s.toList == [36,61])
  ·rw[if_neg (by unfold lH;rw[h1,h2];simp),List.takeWhile_cons_of_pos (by unfold jF;rw[h2];rfl),ih (fun u hu=>hL u (by simp[hu]))]
  ·rw[if_pos (by unfold lH;rw[h2];rfl),List.takeWhile_cons_of_neg (by unfold jF;rw[h2];simp)]
theorem Et(T:List Tk)(h:Nat)(hh:gj T<=h):∀u∈T.drop h,bY u.s=false:=by
 intro u hu;obtain⟨q,hq,e⟩:=List.getElem_of_mem hu;rw[List.length_drop]at hq;have:=(fI T).n (h+q) (by unfold gj at hh;omega) (by omega);rw[List.getElem_drop]at e;unfold tS at this;rw[List.getD_eq_getElem?_getD,List.getElem?_eq_getElem (by omega)]at this;rw[<-e];exact this
theorem Gv(B:List ByteArray)(h:aI B ⟨#[36,61]⟩=false):∀y∈B,jF y=true:=by
 intro y hy;unfold aI at h;rw[List.any_eq_false]at h;have:=h y hy;have e:(⟨#[36,61]⟩:ByteArray).toList=[36,61]:=by decide +kernel
 rw[e]at this;unfold jF;simpa using this
theorem EA(B:List ByteArray)(h:∀y∈B,jF y=true):B.takeWhile jF=B:=by
 induction B with
 | nil=>rfl
 | cons a B ih=>rw[List.takeWhile_cons_of_pos (h a (by simp)),ih (fun y hy=>h y (by simp[hy]))]
theorem sN(B:List ByteArray)(h:aI B ⟨#[36,61]⟩=false):B.takeWhile jF=B:=EA B (Gv B h)
theorem FK(B:List ByteArray)(y:ByteArray)(h:aI B ⟨#[36,61]⟩=true):(B++[y]).takeWhile jF=B.takeWhile jF:=by
 have e:(⟨#[36,61]⟩:ByteArray).toList=[36,61]:=by decide +kernel
 induction B with
 | nil=>cases h
 | cons a B ih =>
  rw[List.cons_append]
  cases h2:(a.toList == [36,61])
  ·have h3:aI B ⟨#[36,61]⟩=true:=by
    unfold aI at h ⊢;rw[List.any_cons,e,h2,Bool.false_or]at h;rw[e];exact h
   rw[List.takeWhile_cons_of_pos (by unfold jF;rw[h2];rfl),List.takeWhile_cons_of_pos (by unfold jF;rw[h2];rfl),ih h3]
  ·rw[List.takeWhile_cons_of_neg (by unfold jF;rw[h2];simp),List.takeWhile_cons_of_neg (by unfold jF;rw[h2];simp)]
end
end Go.Proofs.YtpddjjabfbfifaaGreat

import Derived.Test.YtpddjjabfbfifaaGreatG07
import Derived.Test.YtpddjjabfbfifaaGreatG23
namespace Go.Proofs.YtpddjjabfbfifaaGreat
open Go.RowKit
set_option maxHeartbeats 40000000
def ka(nm d:ByteArray)(i:pG):Tk:=⟨i.text,i.rule,nm,aL d i.pos,aW d i.pos⟩
def JQ(nm d:ByteArray):Nat->Nat->List Tk
 | 0,_=>[]
 | f+1,k=>ka nm d (bi d k).1 :: (if aG (bi d k).1=true then JQ nm d f (bi d k).2 else [])
def ly(nm d:ByteArray)(k:Nat):List Tk:=JQ nm d (d.size-k+1) k
theorem Iv(nm d:ByteArray)(f k:Nat)(hk:k<=d.size)(hf:d.size-k+1<=f):JQ nm d f k=ly nm d k:=by
 unfold ly
 suffices h:∀f g k,k<=d.size->d.size-k+1<=f->d.size-k+1<=g->JQ nm d f k=JQ nm d g k from h _ _ _ hk hf (Nat.le_refl _)
 clear hf hk f k;intro f
 induction f with
 | zero=>intro g k _ h;omega
 | succ f ih =>
  intro g k hk hf hg
  cases g with
  | zero=>omega
  | succ g =>
   rw[JQ,JQ]
   split
   ·next h =>
    have hl:=fw d k hk;have hl2:=hl.2.2 h;rw[ih g _ hl.2.1 (by omega) (by omega)]
   ·rfl
theorem j7(nm d:ByteArray)(k:Nat)(hk:k<=d.size)(h:aG (bi d k).1=true):ly nm d k=ka nm d (bi d k).1 :: ly nm d (bi d k).2:=by
 have hl:=fw d k hk;have hl2:=hl.2.2 h
 conv=>lhs;unfold ly
 rw[JQ,if_pos h,Iv nm d _ _ hl.2.1 (by omega)]
theorem i7(nm d:ByteArray)(k:Nat)(h:aG (bi d k).1=false):ly nm d k=[ka nm d (bi d k).1]:=by
 unfold ly;rw[JQ,if_neg (by simp[h])]
theorem Bt(d:ByteArray)(k:Nat)(h:k<d.size)(hb:cv (aF d k)=true):bi d k=bi d (k+1):=by
 unfold bi;rw[CZ d k h hb]
theorem rZ(nm d:ByteArray)(k:Nat)(h:k<d.size)(hb:cv (aF d k)=true):ly nm d k=ly nm d (k+1):=by
 have e:=Bt d k h hb
 cases hw:aG (bi d k).1
 ·rw[i7 nm d k hw,i7 nm d (k+1) (by rw[<-e];exact hw),e]
 ·rw[j7 nm d k (by omega) hw,j7 nm d (k+1) (by omega) (by rw[<-e];exact hw),e]
theorem z8(d:ByteArray)(n:Nat):∀a,(∀j,a<=j->j<a+n->j<d.size/\cv (aF d j)=false/\eG (aF d j)=true)->ci d a=ci d (a+n):=by
 induction n with
 | zero=>intro a _;rfl
 | succ n ih =>
  intro a h;have h0:=h a (by omega) (by omega);rw[Dc d a h0.1 h0.2.1 h0.2.2,ih (a+1) (fun j h1 h2=>h j (by omega) (by omega))]
  congr 1;omega
theorem Al{n:Int}(h:oA n=false)(hb:cv n=false):eG n=true:=by
 unfold oA at h;rw[hb]at h;simpa using h
theorem zC(d:ByteArray)(a z:Nat)(haz:a<z)(hz:z<=d.size)(hj:∀j,a<=j->j<z->cv (aF d j)=false/\eG (aF d j)=true)(he:z<d.size->cv (aF d z)=true):bi d a=(⟨d.extract a z,0,false,a⟩,z):=by
 have hw:=z8 d (z-a) a (fun j h1 h2=>⟨by omega,hj j h1 (by omega)⟩);rw[show a+(z-a)=z by omega]at hw;refine we d a a z (qr d a (fun h=>?_)).symm hw.symm (fun h=>?_) haz
 ·rw[(hj a (Nat.le_refl _) haz).1]at h;simp at h
 ·rw[he h.1]at h;simp at h
theorem mq(d:ByteArray)(i:Nat):∀j,cM d i<=j->j<i->cv (aF d j)=false:=by
 induction i with
 | zero=>intro j _ h;omega
 | succ i ih =>
  intro j h1 h2;rw[cM]at h1
  split at h1
  ·omega
  ·next hb =>
   by_cases e:j=i
   ·rw[e];simpa using hb
   ·exact ih j h1 (by omega)
theorem uS(nm d:ByteArray)(i:Nat)(hi:i<=d.size)(hb:∀j,j<i->oA (aF d j)=false):ly nm d 0=h9 nm d i++ly nm d (cM d i):=by
 induction i with
 | zero=>rfl
 | succ i ih =>
  have ih:=ih (by omega) (fun j hj=>hb j (by omega));rw[h9,cM]
  cases hbl:cv (aF d i)
  ·rw[if_neg (by simp),if_neg (by simp)];exact ih
  ·rw[if_pos rfl,if_pos rfl]
   have hl:=mt d i;unfold ia
   split
   ·next e =>
    rw[ih,e,rZ nm d i (by omega) hbl]
   ·next e =>
    have hr:=zC d (cM d i) i (by omega) (by omega) (fun j h1 h2=>⟨mq d i j h1 h2,Al (hb j (by omega)) (mq d i j h1 h2)⟩) (fun _=>hbl);rw[ih,j7 nm d (cM d i) (by omega) (by rw[hr];rfl),hr,<-rZ nm d i (by omega) hbl];simp[ka,kL]
theorem Cj(nm d:ByteArray):fS nm d=ly nm d 0:=by
 unfold fS
 cases hf:iG d with
 | some i =>
  unfold iG at hf;rw[List.find?_range_eq_some]at hf;obtain⟨h1,h2,h3⟩:=hf;have h2:=List.mem_range.1 h2;have hb:∀j,j<i->oA (aF d j)=false:=fun j hj=>by simpa using h3 j hj
  have hl:=mt d i;have hin:∀j,cM d i<=j->j<cM d i+(i-cM d i)->j<d.size/\cv (aF d j)=false/\eG (aF d j)=true:=fun j h1 h2=>⟨by omega,mq d i j h1 (by omega),Al (hb j (by omega)) (mq d i j h1 (by omega))⟩
  have hp:eG (aF d i)=false/\cv (aF d i)=false:=by
   unfold oA at h1;simpa using h1
  have hw:=z8 d (i-cM d i) (cM d i) hin;rw[show cM d i+(i-cM d i)=i by omega]at hw
  have hsk:cM d i=skip d (cM d i):=(qr d _ (fun h=>by
   by_cases e:cM d i=i
   ·rw[e,hp.2]at h;simp at h
   ·rw[(hin (cM d i) (Nat.le_refl _) (by omega)).2.1]at h;simp at h)).symm
  have hr:=zA d (cM d i) (cM d i) i hsk hw.symm h2 hp.2 hp.1;simp only;rw[uS nm d i (by omega) hb,i7 nm d (cM d i) (by rw[hr];rfl),hr];simp[ka,kL]
 | none =>
  have hb:∀j,j<d.size->oA (aF d j)=false:=fun j hj=>by
   unfold iG at hf;rw[List.find?_eq_none]at hf;simpa using hf j (List.mem_range.2 hj)
  have hl:=mt d d.size;have hend:bi d d.size=(⟨⟨#[]⟩,0,true,d.size⟩,d.size):=zB d d.size d.size d.size (qr d _ (fun h=>by omega)).symm rfl (fun h=>by omega) (Nat.le_refl _);simp only;rw[uS nm d d.size (Nat.le_refl _) hb];unfold ia
  split
  ·next e =>
   rw[e,i7 nm d d.size (by rw[hend];rfl),hend];simp[ka,kL]
  ·next e =>
   have hr:=zC d (cM d d.size) d.size (by omega) (Nat.le_refl _) (fun j h1 h2=>⟨mq d _ j h1 h2,Al (hb j h2) (mq d _ j h1 h2)⟩) (fun h=>by omega);rw[j7 nm d (cM d d.size) hl (by rw[hr];rfl),hr,i7 nm d d.size (by rw[hend];rfl),hend];simp[ka,kL]
def JL(nm d:ByteArray):Nat->Nat->List Tk
 | 0,_=>[]
 | f+1,k=>ka nm d (av d k).1 :: (if aG (av d k).1=true then JL nm d f (av d k).2 else [])
def kB(nm d:ByteArray)(k:Nat):List Tk:=JL nm d (d.size-k+1) k
theorem Id(nm d:ByteArray)(f k:Nat)(hk:k<=d.size)(hf:d.size-k+1<=f):JL nm d f k=kB nm d k:=by
 unfold kB
 suffices h:∀f g k,k<=d.size->d.size-k+1<=f->d.size-k+1<=g->JL nm d f k=JL nm d g k from h _ _ _ hk hf (Nat.le_refl _)
 clear hf hk f k;intro f
 induction f with
 | zero=>intro g k _ h;omega
 | succ f ih =>
  intro g k hk hf hg
  cases g with
  | zero=>omega
  | succ g =>
   rw[JL,JL]
   split
   ·next h =>
    have hl:=eN d k hk;have hl2:=hl.2.2 h;rw[ih g _ hl.2.1 (by omega) (by omega)]
   ·rfl
theorem i6(nm d:ByteArray)(k:Nat)(hk:k<=d.size)(h:aG (av d k).1=true):kB nm d k=ka nm d (av d k).1 :: kB nm d (av d k).2:=by
 have hl:=eN d k hk;have hl2:=hl.2.2 h
 conv=>lhs;unfold kB
 rw[JL,if_pos h,Id nm d _ _ hl.2.1 (by omega)]
theorem iZ(nm d:ByteArray)(k:Nat)(h:aG (av d k).1=false):kB nm d k=[ka nm d (av d k).1]:=by
 unfold kB;rw[JL,if_neg (by simp[h])]
theorem BK(nm d:ByteArray)(k j:Nat)(hk:k<=d.size)(hj:j<=d.size)(h:av d k=av d j):kB nm d k=kB nm d j:=by
 cases hw:aG (av d k).1
 ·rw[iZ nm d k hw,iZ nm d j (by rw[<-h];exact hw),h]
 ·rw[i6 nm d k hk hw,i6 nm d j hj (by rw[<-h];exact hw),h]
theorem C4(s:ByteArray)(c:UInt8):ge s ⟨#[36,c]⟩=(List.range s.size).any (fun i=>decide (1<=i)&&(aF s (i-1)==36)&&(aF s i==(c.toNat:Int))):=by
 have hsz:(⟨#[36,c]⟩:ByteArray).size=2:=rfl
 have hat:∀i,i+2<=s.size->(pD s ⟨#[36,c]⟩ i=((aF s i==36)&&(aF s (i+1)==(c.toNat:Int)))):=fun i hi=>by
  have e:(s.extract i (i+2)).toList=[s[i]'(by omega),s[i+1]'(by omega)]:=by
   apply List.ext_getElem
   ·rw[ByteArray.toList_eq];simp;omega
   ·intro n h1 h2
    simp only[List.length_cons,List.length_nil]at h2;have hn:n=0∨n=1:=by omega
    simp only[ByteArray.toList_eq,ByteArray.data_extract,Array.getElem_toList,Array.getElem_extract]
    rcases hn with rfl | rfl <;> rfl
  unfold pD;rw[hsz,e,bI s i (by omega),bI s (i+1) (by omega)];have e2:(⟨#[36,c]⟩:ByteArray).toList=[36,c]:=by rw[ByteArray.toList_eq]
  rw[e2]
  have b1:∀x:UInt8,((x.toNat:Int)==36)=(x==36):=fun x=>by
   rw[Bool.eq_iff_iff];simp only[beq_iff_eq]
   constructor
   ·intro h;exact UInt8.toNat_inj.1 (by rw[show x.toNat=36 by omega];rfl)
   ·rintro rfl;rfl
  have b2:∀x:UInt8,((x.toNat:Int)==(c.toNat:Int))=(x==c):=fun x=>by
   rw[Bool.eq_iff_iff];simp only[beq_iff_eq]
   constructor
   ·intro h;exact UInt8.toNat_inj.1 (by omega)
   ·rintro rfl;rfl
  rw[b1,b2];simp[Bool.beq_eq_decide_eq,Bool.decide_and]
 unfold ge;rw[hsz,Bool.eq_iff_iff,List.any_eq_true,List.any_eq_true]
 constructor
 ·rintro ⟨i,hi,h⟩
  have hi:=List.mem_range.1 hi;rw[Bool.and_eq_true,decide_eq_true_eq]at h;rw[hat i h.1]at h;exact⟨i+1,List.mem_range.2 (by omega),by rw[Nat.add_sub_cancel,Bool.and_eq_true,Bool.and_eq_true,decide_eq_true_eq];rw[Bool.and_eq_true]at h;exact⟨⟨by omega,h.2.1⟩,h.2.2⟩⟩
 ·rintro ⟨i,hi,h⟩
  have hi:=List.mem_range.1 hi;rw[Bool.and_eq_true,Bool.and_eq_true,decide_eq_true_eq]at h;refine⟨i-1,List.mem_range.2 (by omega),?_⟩;rw[Bool.and_eq_true,decide_eq_true_eq,hat (i-1) (by omega),Bool.and_eq_true,show i-1+1=i by omega];exact⟨by omega,h.1.2,h.2⟩
theorem rG(s:ByteArray):jl s=(ge s ⟨#[36,40]⟩||ge s ⟨#[36,41]⟩):=by
 rw[C4,C4,Bool.eq_iff_iff,Bool.or_eq_true];unfold jl;simp only[List.any_eq_true,Bool.and_eq_true,Bool.or_eq_true]
 constructor
 ·rintro ⟨i,hi,h1,h2 | h2⟩
  ·exact Or.inl ⟨i,hi,h1,h2⟩
  ·exact Or.inr ⟨i,hi,h1,h2⟩
 ·rintro (⟨i,hi,h1,h2⟩ | ⟨i,hi,h1,h2⟩)
  ·exact⟨i,hi,h1,Or.inl h2⟩
  ·exact⟨i,hi,h1,Or.inr h2⟩
theorem hU(s:ByteArray):ge s ⟨#[36]⟩=dw s:=by
 have hsz:(⟨#[36]⟩:ByteArray).size=1:=rfl
 have hat:∀i,i+1<=s.size->(pD s ⟨#[36]⟩ i=(aF s i==36)):=fun i hi=>by
  have e:(s.extract i (i+1)).toList=[s[i]'(by omega)]:=by
   apply List.ext_getElem
   ·rw[ByteArray.toList_eq];simp;omega
   ·intro n h1 h2
    simp only[List.length_cons,List.length_nil]at h2;have hn:n=0:=by omega
    simp only[ByteArray.toList_eq,ByteArray.data_extract,Array.getElem_toList,Array.getElem_extract];subst hn;rfl
  unfold pD;rw[hsz,e,bI s i (by omega)];have e2:(⟨#[36]⟩:ByteArray).toList=[36]:=by rw[ByteArray.toList_eq]
  rw[e2,Bool.eq_iff_iff];simp only[beq_iff_eq,List.cons.injEq,and_true]
  constructor
  ·intro h;rw[h];rfl
  ·intro h;exact UInt8.toNat_inj.1 (by rw[show(s[i]'(by omega)).toNat=36 by omega];rfl)
 unfold ge dw;rw[hsz,Bool.eq_iff_iff,List.any_eq_true,List.any_eq_true]
 constructor
 ·rintro ⟨i,hi,h⟩
  rw[Bool.and_eq_true,decide_eq_true_eq]at h;rw[hat i h.1]at h;exact⟨i,List.mem_range.2 (by omega),h.2⟩
 ·rintro ⟨i,hi,h⟩
  have hi:=List.mem_range.1 hi;exact⟨i,List.mem_range.2 (by omega),by rw[Bool.and_eq_true,decide_eq_true_eq,hat i (by omega)];exact⟨by omega,h⟩⟩
theorem qq(d:ByteArray)(k:Nat)(hk:k<=d.size):(aG (bi d k).1=true->((bi d k).1.text.toList == [])=false/\(bi d k).1.rule=0)/\(aG (bi d k).1=false->(bi d k).1.text=⟨#[]⟩/\((bi d k).1.fin=true->(bi d k).1.rule=0)):=by
 have a:=xF d k hk;have b:=pE d (skip d k) a.2;unfold bi;simp only
 split
 ·exact⟨fun h=>by simp[aG]at h,fun _=>⟨rfl,fun h=>by cases h⟩⟩
 ·split
  ·exact⟨fun h=>by simp[aG]at h,fun _=>⟨rfl,fun _=>rfl⟩⟩
  ·next h1 h2 =>
   refine⟨fun _=>⟨?_,rfl⟩,fun h=>by simp[aG]at h⟩
   have hl:(d.extract (skip d k) (ci d (skip d k))).size=ci d (skip d k)-skip d k:=by
    rw[ByteArray.size_extract];omega
   cases e:((d.extract (skip d k) (ci d (skip d k))).toList == [])
   ·rfl
   ·have e:(d.extract (skip d k) (ci d (skip d k))).toList=[]:=by simpa using e
    have:=congrArg List.length e;rw[ByteArray.toList_eq]at this;have hs:ci d (skip d k)-skip d k=0∨d.size-skip d k=0:=by simpa using this
    omega
theorem FM(nm d:ByteArray)(f:Nat):∀k,k<=d.size->d.size-k+1<=f ->
  bJ true (ly nm d k)=(if aG (aQ d k).1=true then bJ false (ly nm d (aQ d k).2) else [ka nm d (aQ d k).1]):=by
 induction f with
 | zero=>intro k _ h;omega
 | succ f ih =>
  intro k hk hf;have hl:=fw d k hk;obtain⟨t1,t2⟩:=qq d k hk
  cases hw:aG (bi d k).1
  ·obtain⟨e1,e2⟩:=t2 hw
   rw[i7 nm d k hw]
   cases hfn:(bi d k).1.fin
   ·have hr:((bi d k).1.rule==0)=false:=by
     unfold aG at hw;rw[hfn]at hw;simpa using hw
    rw[rJ d k hw hfn,hw,if_neg (by simp),bJ,if_pos (by exact hr)];rw[bJ]
   ·rw[pQ d k hw hfn,if_neg (by simp[aG]),bJ,if_neg (by simp[ka,e2 hfn]),if_neg (by simp[ka,Ac,e1]),if_pos (by simp[ka,Ac,e1]),bJ]
    rfl
  ·obtain⟨e1,e2⟩:=t1 hw
   have hl2:=hl.2.2 hw;rw[j7 nm d k hk hw]
   cases hc:((bi d k).1.text.toList == [36,41])
   ·cases hb:jl (bi d k).1.text
    ·rw[tq d k hk hw hc hb,bJ,if_neg (by simp[ka,e2]),if_neg (by simp only[ka,Ac];rw[hc];simp),if_neg (by simp only[ka,Ac];rw[e1];simp),if_neg (by rw[<-rG];simp only[ka];rw[hb];simp)]
     exact ih _ hl.2.1 (by omega)
    ·rw[pP d k hw hc hb,if_neg (by simp[aG]),bJ,if_neg (by simp[ka,e2]),if_neg (by simp only[ka,Ac];rw[hc];simp),if_neg (by simp only[ka,Ac];rw[e1];simp),if_pos (by rw[<-rG];exact hb)]
     rfl
   ·rw[oI d k hw hc,if_pos hw,bJ,if_neg (by simp[ka,e2]),if_pos (by simp only[ka,Ac];exact hc)]
theorem Dj(nm d:ByteArray)(f:Nat):∀k,k<=d.size->d.size-k+1<=f->bJ false (ly nm d k)=kB nm d k:=by
 induction f with
 | zero=>intro k _ h;omega
 | succ f ih =>
  intro k hk hf;have hl:=fw d k hk;obtain⟨t1,t2⟩:=qq d k hk
  cases hw:aG (bi d k).1
  ·obtain⟨e1,e2⟩:=t2 hw
   have hn:=po d k (Or.inl hw);rw[i7 nm d k hw,iZ nm d k (by rw[hn];exact hw),hn,bJ,if_neg (by simp[ka,Ac,e1]),bJ]
  ·have hl2:=hl.2.2 hw
   rw[j7 nm d k hk hw]
   cases hc:((bi d k).1.text.toList == [36,40])
   ·have hn:=po d k (Or.inr hc)
    rw[i6 nm d k hk (by rw[hn];exact hw),hn,bJ,if_neg (by simp only[ka,Ac];rw[hc];simp),ih _ hl.2.1 (by omega)]
   ·have hcl:=hQ d (bi d k).2 hl.2.1
    rw[bJ,if_pos (by simp only[ka,Ac];exact hc),FM nm d _ _ hl.2.1 (Nat.le_refl _)]
    cases hcw:aG (aQ d (bi d k).2).1
    ·have hn:=rR d k hw hc hcw
     rw[if_neg (by simp),iZ nm d k (by rw[hn];exact hcw),hn]
    ·have hn:=CP d k hk hw hc hcw
     rw[if_pos rfl,ih _ hcl.2 (by omega)];exact(BK nm d k _ hk hcl.2 hn).symm
theorem wm(fs:Fs)(k:Nat):oP fs k=kB (aC fs k) (aj fs k) 0:=by
 unfold oP;rw[Cj];exact Dj _ _ _ 0 (Nat.zero_le _) (Nat.le_refl _)
theorem gJ(T U:List Tk)(i:Nat)(h:i<T.length):tS (T++U) i=tS T i:=by
 unfold tS;rw[List.getD_eq_getElem?_getD,List.getD_eq_getElem?_getD,List.getElem?_append_left h]
theorem qv(T:List Tk)(t:Tk):tS (T++[t]) T.length=t.s:=by
 unfold tS;rw[List.getD_eq_getElem?_getD,List.getElem?_append_right (Nat.le_refl _),Nat.sub_self];rfl
theorem xj(T U:List Tk)(b:Nat)(h:b+1<T.length):dY (T++U) b=dY T b:=by
 unfold dY;rw[gJ T U b (by omega),gJ T U (b+1) h,List.length_append];have e1:decide (T.length+U.length<=b+1)=false:=by simp;omega
 have e2:decide (T.length<=b+1)=false:=by simp;omega
 rw[e1,e2]
theorem DO(T U:List Tk)(b i:Nat)(hb:b<=i)(hi:i<T.length)(he:bZ (tS T i)=true):dY (T++U) b=dY T b:=by
 by_cases e:b=i
 ·subst e
  unfold dY;rw[gJ T U b hi,(kz he).1];simp
 ·exact xj T U b (by omega)
theorem ub(T U:List Tk)(i:Nat)(hi:i<=T.length):dU (T++U) i=dU T i:=by
 induction i with
 | zero=>rfl
 | succ i ih =>
  rw[dU,dU,ih (by omega),gJ T U i (by omega)]
  cases he:bZ (tS T i)
  ·rfl
  ·rw[DO T U _ i (GH T i) (by omega) he]
theorem Bb(T:List Tk)(i k:Nat):∃M,(dU T (i+k)).1=(dU T i).1++M/\∀m∈M,i<m.z:=by
 induction k with
 | zero=>exact⟨[],by simp,by simp⟩
 | succ k ih =>
  obtain⟨M,h1,h2⟩:=ih;rw[show i+(k+1)=(i+k)+1 by omega,dU]
  split
  ·refine⟨M++[⟨(dU T (i+k)).2,i+k+1,(dY T (dU T (i+k)).2).2,(dY T (dU T (i+k)).2).1⟩],by simp only[h1,List.append_assoc],fun m hm=>?_⟩
   rcases List.mem_append.1 hm with h | h
   ·exact h2 m h
   ·rw[List.mem_singleton.1 h];show i<i+k+1;omega
  ·exact⟨M,h1,h2⟩
theorem wj(T U:List Tk):∃M,LS (T++U)=LS T++M/\∀m∈M,T.length<m.z:=by
 obtain⟨M,h1,h2⟩:=Bb (T++U) T.length U.length;refine⟨M,?_,h2⟩;unfold LS;rw[List.length_append,h1,ub T U _ (Nat.le_refl _)]
def gi(T:List Tk):Nat:=(dU T T.length).2
theorem Bg(T:List Tk):gi T=ji (LS T) (LS T).length:=(fL T).fr
theorem pC(T:List Tk)(t:Tk):LS (T++[t])=(if bZ t.s=true then LS T++[⟨gi T,T.length+1,(dY (T++[t]) (gi T)).2,(dY (T++[t]) (gi T)).1⟩] else LS T)/\gi (T++[t])=(if bZ t.s=true then T.length+1 else gi T):=by
 unfold LS gi;rw[List.length_append,List.length_cons,List.length_nil,dU,ub T [t] T.length (Nat.le_refl _),qv]
 split <;> exact⟨rfl,rfl⟩
theorem kt(S M:List Sm)(j:Nat)(h:j<S.length):au (S++M) j=au S j:=by
 unfold au;rw[List.getD_eq_getElem?_getD,List.getD_eq_getElem?_getD,List.getElem?_append_left h]
theorem x9(S M:List Sm)(n:Nat)(h:n<=S.length):ji (S++M) n=ji S n:=by
 unfold ji
 split
 ·rw[kt S M (n-1) (by omega)]
 ·rfl
theorem Cv(i:Nat)(S M:List Sm)(h:∀m∈M,i<m.z):lQ i (S++M)=lQ i S:=by
 induction S with
 | nil =>
  cases M with
  | nil=>rfl
  | cons m M =>
   have:=h m (by simp)
   show(if m.z<=i then lQ i M+1 else 0)=0
   rw[if_neg (by omega)]
 | cons s S ih=>rw[List.cons_append,lQ,lQ,ih]
theorem oZ(S M:List Sm)(j n:Nat)(h:n<=S.length):bB (S++M) j n=bB S j n:=by
 unfold bB
 by_cases hj:j<=S.length
 ·rw[List.drop_append_of_le_length hj,List.take_append_of_le_length (by rw[List.length_drop];omega)]
 ·rw[show n-j=0 by omega];simp
theorem jS(S M:List Sm)(n:Nat)(h:n<=S.length):bF (S++M) n=bF S n:=by
 unfold bF;rw[List.take_append_of_le_length h]
theorem vE(L M:List Tk)(h:∃u∈L,lL u.s=true):kZ (L++M)=kZ L:=by
 induction L with
 | nil=>obtain⟨u,hu,-⟩:=h;cases hu
 | cons a L ih =>
  rw[List.cons_append,kZ,kZ]
  split
  ·rfl
  ·next hs =>
   rw[ih];obtain⟨u,hu,h2⟩:=h
   rcases List.mem_cons.1 hu with rfl | hu
   ·exact absurd h2 hs
   ·exact⟨u,hu,h2⟩
theorem E8{T:List Tk}{h:Nat}(hs:eD T h):∃u∈T.drop h,lL u.s=true:=by
 obtain⟨e,h1,h2,h3⟩:=hs;refine⟨T[e],?_,?_⟩
 ·rw[List.mem_iff_getElem?]
  exact⟨e-h,by rw[List.getElem?_drop,show h+(e-h)=e by omega,List.getElem?_eq_getElem h2]⟩
 ·unfold tS at h3
  rw[List.getD_eq_getElem?_getD,List.getElem?_eq_getElem h2]at h3;exact h3
theorem ti(T U:List Tk)(h:Nat)(hs:eD T h):bV (T++U) h=bV T h:=by
 have hl:h<=T.length:=by obtain⟨e,h1,h2,-⟩:=hs;omega
 unfold bV;rw[List.drop_append_of_le_length hl,vE _ _ (E8 hs)]
theorem jQ{n:Nat}{p q:Nat->Bool}(h:∀j,j<n->p j=q j):(List.range n).any p=(List.range n).any q:=by
 rw[Bool.eq_iff_iff,List.any_eq_true,List.any_eq_true]
 constructor
 ·rintro ⟨j,hj,h1⟩;exact⟨j,hj,by rw[<-h j (List.mem_range.1 hj)];exact h1⟩
 ·rintro ⟨j,hj,h1⟩;exact⟨j,hj,by rw[h j (List.mem_range.1 hj)];exact h1⟩
theorem tK{l:List Nat}{p q:Nat->Bool}(h:∀j∈l,p j=q j):l.find? p=l.find? q:=by
 induction l with
 | nil=>rfl
 | cons a l ih =>
  rw[List.find?_cons,List.find?_cons,h a (by simp),ih (fun j hj=>h j (by simp[hj]))]
section
variable {T U:List Tk} {S M:List Sm} {n:Nat}
theorem tu(key x:ByteArray)(act:Bool)(hn:n<=S.length)(hk:∀j,j<n->((au S j).k.toList==key.toList)=true->eD T (au S j).h):im (T++U) (S++M) key x n act=im T S key x n act:=by
 unfold im;refine jQ (fun j hj=>?_);unfold nC;rw[kt S M j (by omega),oZ S M j n hn]
 cases h:((au S j).k.toList==key.toList)
 ·rfl
 ·rw[ti T U _ (hk j hj h)]
theorem qJ(x:ByteArray)(ok:jg T S n):dM (T++U) (S++M) x n=dM T S x n:=tu _ x _ ok.m (by rw[l5.1];exact ok.c)
theorem C7(x:ByteArray)(ok:jg T S n):jG (T++U) (S++M) x n=jG T S x n:=tu _ x _ ok.m (by rw[l5.2];exact ok.v)
theorem vU(s:Sm)(h:s.a<T.length):cd (T++U) s=cd T s:=by
 unfold cd;rw[gJ T U s.a h]
theorem pY(x:ByteArray)(ok:jg T S n):bn (T++U) (S++M) x n=bn T S x n:=by
 unfold bn
 rw[tK (q:=oE T S x) (fun j hj=>by
  have hj:=List.mem_range.1 hj;have:=ok.m;unfold oE;rw[kt S M j (by omega),vU _ (ok.a j hj)])]
theorem wl(x:ByteArray)(ok:jg T S n):iC (T++U) (S++M) x n=iC T S x n:=by
 unfold iC;rw[pY x ok,qJ x ok,tu _ x _ ok.m (by rw[l5.2];exact ok.v)]
theorem DF(x:ByteArray)(ok:jg T S n)(hf:kG T S n):fg (T++U) (S++M) x n=fg T S x n:=by
 unfold fg
 rw[tK (q:=qQ T S x n) (fun j hj=>by
  have hj:=List.mem_range.1 hj;have:=ok.m;unfold qQ;rw[kt S M j (by omega),oZ S M j n ok.m]
  cases h:((au S j).k.toList == [36,102])
  ·rfl
  ·rw[gJ T U _ (hf j hj h)])]
theorem Ee(x:ByteArray)(con:Bool)(B:List ByteArray)(ok:jg T S n):iV (T++U) (S++M) x n con B=iV T S x n con B:=by
 unfold iV;rw[wl x ok,pY x ok,qJ x ok,C7 x ok]
theorem BI(key x:ByteArray)(B:List ByteArray)(ok:jg T S n)(hf:kG T S n):il (T++U) (S++M) key x n B=il T S key x n B:=by
 unfold il;rw[qJ x ok,C7 x ok,DF x ok hf]
theorem zv(key x:ByteArray)(B:List ByteArray)(ok:jg T S n)(hf:kG T S n):kp (T++U) (S++M) key x n B=kp T S key x n B:=by
 unfold kp;rw[Ee x _ B ok,BI key x B ok hf]
theorem vN(x:ByteArray)(ok:jg T S n):cZ (T++U) (S++M) x n=cZ T S x n:=by
 unfold cZ;rw[jS S M n ok.m,wl x ok]
end
theorem Ct(T U:List Tk)(h i:Nat)(hh:h<=i)(hi:i<=T.length):eE (T++U) h i=eE T h i:=by
 unfold eE;rw[List.drop_append_of_le_length (by omega),List.take_append_of_le_length (by rw[List.length_drop];omega)]
theorem tj(T U:List Tk)(hT:T.length<=100000)(i:Nat)(hi:i<T.length)(hall:∀j,j<i->aZ T (LS T) j=0):aZ (T++U) (LS (T++U)) i=aZ T (LS T) i:=by
 obtain⟨ok,hf⟩:=JY T hT i hi hall;obtain⟨M,hM,hz⟩:=wj T U;rw[hM];generalize LS T=S at *;have hc:g9 (S++M) i=g9 S i:=Cv i S M (fun m hm=>by have:=hz m hm;omega);have hb:=FS S i;unfold aZ;rw[hc,x9 S M _ ok.m,gJ T U i hi]
 by_cases e:i=ji S (g9 S i)
 ·rw[if_pos e,if_pos e,vN _ ok]
 ·rw[if_neg e,if_neg e,xj T U _ (by omega)]
  split
  ·rfl
  ·next hh =>
   rw[zv _ _ _ ok hf,Ct T U _ i (by omega) (by omega)]
theorem pa(T U:List Tk)(hT:T.length<=100000)(h:∀j,j<T.length->aZ T (LS T) j=0):∀j,j<T.length->aZ (T++U) (LS (T++U)) j=0:=fun j hj=>by
 rw[tj T U hT j hj (fun q hq=>h q (by omega))];exact h j hj
def rM(o:Int)(L:List Sm):Int:=L.foldl (fun o s=>aY o s.k) o
theorem vG(o c:Int)(k:ByteArray):aY (o+c) k=aY o k+c:=by
 unfold aY
 split <;> split <;> omega
theorem yL(L:List Sm):∀o c,rM (o+c) L=rM o L+c:=by
 induction L with
 | nil=>intro o c;rfl
 | cons s L ih =>
  intro o c
  show rM (aY (o+c) s.k) L=rM (aY o s.k) L+c
  rw[vG,ih]
theorem De(L:List Sm)(s:Sm):∀o,ov o (L++[s])=(ov o L&&decide (0<=rM o (L++[s]))):=by
 induction L with
 | nil =>
  intro o
  show(if aY o s.k<0 then false else ov (aY o s.k) [])=(ov o []&&decide (0<=aY o s.k))
  simp only[ov]
  by_cases h:aY o s.k<0
  ·rw[if_pos h];simp;omega
  ·rw[if_neg h];simp;omega
 | cons a L ih =>
  intro o;rw[List.cons_append,ov,ov]
  by_cases h:aY o a.k<0
  ·rw[if_pos h,if_pos h];rfl
  ·rw[if_neg h,if_neg h,ih];rfl
theorem AH(S:List Sm)(j n:Nat)(hj:j<=n):rM 0 ((S.drop j).take (n-j))=bF S n-bF S j:=by
 have e:S.take n=S.take j++(S.drop j).take (n-j):=by
  rw[show n=j+(n-j) by omega,List.take_add];simp
 have h2:bF S n=rM (bF S j) ((S.drop j).take (n-j)):=by
  unfold bF rM;rw[e,List.foldl_append]
 have:=yL ((S.drop j).take (n-j)) 0 (bF S j);rw[Int.zero_add]at this;omega
theorem sU(S:List Sm)(j n:Nat)(hj:j<=n)(hn:n<S.length):bB S j (n+1)=(bB S j n&&decide (bF S j<=bF S (n+1))):=by
 have e:(S.drop j).take (n+1-j)=(S.drop j).take (n-j)++[S[n]]:=by
  rw[show n+1-j=(n-j)+1 by omega,List.take_succ_eq_append_getElem (by rw[List.length_drop];omega),List.getElem_drop]
  congr 3;omega
 have hf:=AH S j (n+1) (by omega);unfold bB;rw[e]at hf ⊢;rw[De,hf]
 congr 1
 rw[decide_eq_decide];omega
theorem FF(S:List Sm)(j:Nat):bB S j j=true:=by
 unfold bB;rw[Nat.sub_self,List.take_zero,ov]
theorem FG(S:List Sm)(j n:Nat)(hj:j<=n)(hn:n<=S.length)(h:bB S j n=true):∀m,j<=m->m<=n->bF S j<=bF S m:=by
 induction n with
 | zero =>
  intro m h1 h2;have e:m=j:=by omega
  rw[e];exact Int.le_refl _
 | succ n ih =>
  intro m h1 h2
  by_cases e:j=n+1
  ·have e:m=j:=by omega
   rw[e];exact Int.le_refl _
  ·rw[sU S j n (by omega) (by omega),Bool.and_eq_true,decide_eq_true_eq]at h
   by_cases e2:m=n+1
   ·rw[e2];exact h.2
   ·exact ih (by omega) (by omega) h.1 m h1 (by omega)
def i8(S:List Sm)(n:Nat):List Nat:=(List.range n).filter (fun j=>bB S j n)
theorem fU{S:List Sm}{n j:Nat}(h:j∈i8 S n):j<n:=List.mem_range.1 (List.mem_filter.1 h).1
theorem Ah(S:List Sm)(n:Nat)(hn:n<=S.length):(i8 S n).Pairwise (fun a b=>bF S a<=bF S b):=by
 have h:=(List.pairwise_lt_range (n:=n)).filter (fun j=>bB S j n);refine h.imp_of_mem (fun {a b} ha hb hab=>?_);have hb:=fU hb;exact FG S a n (by omega) hn (List.mem_filter.1 ha).2 b (by omega) (by omega)
theorem BB{f:Nat->Int}(c:Int)(l:List Nat)(h:l.Pairwise (fun a b=>f a<=f b)):l=l.filter (fun j=>decide (f j<=c))++l.filter (fun j=>!decide (f j<=c)):=by
 induction l with
 | nil=>rfl
 | cons a l ih =>
  obtain⟨h1,h2⟩:=List.pairwise_cons.1 h;have ih:=ih h2
  by_cases ha:f a<=c
  ·rw[List.filter_cons_of_pos (by simpa using ha),List.filter_cons_of_neg (by simpa using ha),List.cons_append,<-ih]
  ·have e:l.filter (fun j=>decide (f j<=c))=[]:=by
    rw[List.filter_eq_nil_iff];intro b hb;have:=h1 b hb;simp;omega
   rw[List.filter_cons_of_neg (by simpa using ha),List.filter_cons_of_pos (by simpa using ha),e];rw[e]at ih;rw[List.nil_append]at ih ⊢;rw[<-ih]
theorem pg{n:Nat}{p q:Nat->Bool}(h:∀j,j<n->p j=q j):(List.range n).filter p=(List.range n).filter q :=
 List.filter_congr (fun j hj=>h j (List.mem_range.1 hj))
theorem ld(S:List Sm)(s:Sm):bF (S++[s]) (S.length+1)=aY (bF S S.length) s.k:=by
 rw[rL (S++[s]) S.length (by simp),jS S [s] _ (Nat.le_refl _)]
 congr 2
 simp
theorem oY(S:List Sm)(s:Sm):i8 (S++[s]) (S.length+1)=(i8 S S.length).filter (fun j=>decide (bF S j<=aY (bF S S.length) s.k))++(if 0<=aY 0 s.k then [S.length] else []):=by
 unfold i8;rw[List.range_succ,List.filter_append,List.filter_filter]
 congr 1
 ·refine pg (fun j hj=>?_)
  rw[sU (S++[s]) j S.length (by omega) (by simp),oZ S [s] j _ (Nat.le_refl _),jS S [s] j (by omega),ld,Bool.and_comm]
 ·have e:bB (S++[s]) S.length (S.length+1)=decide (0<=aY 0 s.k):=by
   rw[sU (S++[s]) S.length S.length (Nat.le_refl _) (by simp),FF,jS S [s] _ (Nat.le_refl _),ld,Bool.true_and,decide_eq_decide];have:=vG 0 (bF S S.length) s.k;rw[Int.zero_add]at this;omega
  by_cases h:0<=aY 0 s.k
  ·rw[if_pos h,List.filter_cons_of_pos (by rw[e];simpa using h)];rfl
  ·rw[if_neg h,List.filter_cons_of_neg (by rw[e];simpa using h)];rfl
theorem Df{S:List Sm}{n j:Nat}(hn:n<=S.length)(h:j∈i8 S n):bF S j<=bF S n:=by
 have hl:=fU h;exact FG S j n (by omega) hn (List.mem_filter.1 h).2 n (by omega) (Nat.le_refl _)
structure pH(F:Nat->List ByteArray)(S:List Sm)(L:List ByteArray)(B:List Nat):Prop where
 l:L=(i8 S S.length).flatMap F
 b:(B.length:Int)=bF S S.length
 o:∀i,i<B.length->B[i]?=some (((i8 S S.length).filter (fun j=>decide (bF S j<=(i:Int)))).flatMap F).length
theorem dj{l:List Nat}{F G:Nat->List ByteArray}(h:∀j∈l,F j=G j):l.flatMap F=l.flatMap G:=by
 induction l with
 | nil=>rfl
 | cons a l ih=>rw[List.flatMap_cons,List.flatMap_cons,h a (by simp),ih (fun j hj=>h j (by simp[hj]))]
theorem pd{S:List Sm}{n:Nat}(hn:n<=S.length){c:Int}(hc:bF S n<=c):(i8 S n).filter (fun j=>decide (bF S j<=c))=i8 S n :=
 List.filter_eq_self.2 (fun j hj=>by have:=Df hn hj;simp;omega)
theorem eB(S:List Sm)(s:Sm):(S++[s]).length=S.length+1:=by simp
theorem nf{S:List Sm}{s:Sm}{n:Nat}(hn:n<=S.length)(c:Int):(i8 S n).filter (fun j=>decide (bF (S++[s]) j<=c))=(i8 S n).filter (fun j=>decide (bF S j<=c)) :=
 List.filter_congr (fun j hj=>by rw[jS S [s] j (by have:=fU hj;omega)])
theorem pH.norm{F F':Nat->List ByteArray}{S:List Sm}{L:List ByteArray}{B:List Nat}(h:pH F S L B)(s:Sm)(hs:∀o,aY o s.k=o)(hF:∀j,j<S.length->F' j=F j):pH F' (S++[s]) (L++F' S.length) B:=by
 have e:=oY S s;rw[hs,hs,if_pos (Int.le_refl _),pd (Nat.le_refl _) (Int.le_refl _)]at e;have hb:=h.b;refine⟨?_,?_,fun i hi=>?_⟩
 ·rw[eB,e,List.flatMap_append,h.l,dj (fun j hj=>hF j (fU hj))];simp
 ·rw[eB,ld,hs];exact hb
 ·rw[eB,e,List.filter_append,nf (Nat.le_refl _),List.filter_cons_of_neg (by rw[jS S [s] _ (Nat.le_refl _)];simp;omega),List.filter_nil,List.append_nil,dj (fun j hj=>hF j (fU (List.mem_filter.1 hj).1))]
  exact h.o i hi
theorem pH.push{F F':Nat->List ByteArray}{S:List Sm}{L:List ByteArray}{B:List Nat}(h:pH F S L B)(s:Sm)(hs:∀o,aY o s.k=o+1)(hF:∀j,j<S.length->F' j=F j)(h0:F' S.length=[]):pH F' (S++[s]) L (B++[L.length]):=by
 have e:=oY S s;rw[hs,hs,if_pos (by omega),pd (Nat.le_refl _) (by omega)]at e;have hb:=h.b
 have one:∀p:Nat->Bool,([S.length].filter p).flatMap F'=[]:=fun p=>by
  rw[List.flatMap_eq_nil_iff];intro j hj;have:=List.mem_singleton.1 (List.mem_filter.1 hj).1;rw[this];exact h0
 refine⟨?_,?_,fun i hi=>?_⟩
 ·rw[eB,e,List.flatMap_append,h.l,dj (fun j hj=>hF j (fU hj))];simp[h0]
 ·rw[eB,ld,hs];simp;omega
 ·rw[eB,e,List.filter_append,nf (Nat.le_refl _),List.flatMap_append,one,List.append_nil,dj (fun j hj=>hF j (fU (List.mem_filter.1 hj).1))]
  simp only[List.length_append,List.length_cons,List.length_nil]at hi
  by_cases hi2:i<B.length
  ·rw[List.getElem?_append_left hi2];exact h.o i hi2
  ·have e2:i=B.length:=by omega
   rw[e2,List.getElem?_append_right (Nat.le_refl _),Nat.sub_self,pd (Nat.le_refl _) (by omega),<-h.l];rfl
theorem pH.pop{F F':Nat->List ByteArray}{S:List Sm}{L:List ByteArray}{B:List Nat}{q:Nat}(h:pH F S L (B++[q]))(s:Sm)(hs:∀o,aY o s.k=o-1)(hF:∀j,j<S.length->F' j=F j):pH F' (S++[s]) (L.take q) B:=by
 have e:=oY S s;rw[hs,hs,if_neg (by omega),List.append_nil]at e;have hb:=h.b;simp only[List.length_append,List.length_cons,List.length_nil]at hb;have hd:bF S S.length-1=(B.length:Int):=by omega
 rw[hd]at e;have hq:=h.o B.length (by simp);rw[List.getElem?_append_right (Nat.le_refl _),Nat.sub_self]at hq;have hq:q=(((i8 S S.length).filter (fun j=>decide (bF S j<=(B.length:Int)))).flatMap F).length:=by simpa using hq
 refine⟨?_,?_,fun i hi=>?_⟩
 ·rw[eB,e,dj (G:=F) (fun j hj=>hF j (fU (List.mem_filter.1 hj).1))]
  have hl:=h.l;rw[BB (f:=bF S) (B.length:Int) (i8 S S.length) (Ah S _ (Nat.le_refl _)),List.flatMap_append]at hl;rw[hl,hq,List.take_append_of_le_length (Nat.le_refl _),List.take_length]
 ·rw[eB,ld,hs];omega
 ·rw[eB,e,List.filter_filter]
  have e3:(i8 S S.length).filter (fun j=>decide (bF (S++[s]) j<=(i:Int))&&decide (bF S j<=(B.length:Int)))=(i8 S S.length).filter (fun j=>decide (bF S j<=(i:Int))) :=
   List.filter_congr (fun j hj=>by
    rw[jS S [s] j (by have:=fU hj;omega)]
    by_cases hh:bF S j<=(i:Int)
    ·have h2:bF S j<=(B.length:Int):=by omega
     simp[hh,h2]
    ·simp[hh])
  rw[e3,dj (G:=F) (fun j hj=>hF j (fU (List.mem_filter.1 hj).1))];have:=h.o i (by simp;omega);rw[List.getElem?_append_left hi]at this;exact this
def zT(T:List Tk)(S:List Sm)(j:Nat):List ByteArray:=if((au S j).k.toList == [36,118])=true then bV T (au S j).h else []
def Dr(T:List Tk)(S:List Sm)(j:Nat):List ByteArray:=if((au S j).k.toList == [36,99])=true then bV T (au S j).h else []
def Dx(T:List Tk)(S:List Sm)(j:Nat):List ByteArray:=if((au S j).k.toList == [36,102])=true then [tS T ((au S j).h+1)] else []
def Gz(T:List Tk)(S:List Sm)(j:Nat):List ByteArray:=if((cd T (au S j)).toList == [])=true then [] else [cd T (au S j)]
theorem nF(F:Nat->List ByteArray)(l:List Nat)(x:ByteArray):aI (l.flatMap F) x=l.any (fun j=>aI (F j) x):=by
 unfold aI;rw[List.any_flatMap]
theorem gD(x:ByteArray):aI [] x=false:=rfl
theorem tR(l m:List ByteArray)(x:ByteArray):aI (l++m) x=(aI l x||aI m x):=by
 unfold aI;rw[List.any_append]
theorem qR(y x:ByteArray):aI [y] x=(y.toList==x.toList):=by simp[aI]
theorem rE(l:List Nat)(p q:Nat->Bool):(l.filter p).any q=l.any (fun j=>p j&&q j):=by
 rw[List.any_filter]
theorem C9(T:List Tk)(S:List Sm)(x:ByteArray)(n:Nat):jG T S x n=aI ((i8 S n).flatMap (zT T S)) x:=by
 rw[nF];unfold i8;rw[rE];unfold jG im;refine jQ (fun j hj=>?_);unfold nC zT;rw[l5.2]
 cases h:((au S j).k.toList == [36,118])
 ·rw[if_neg (by simp),gD];simp
 ·rw[if_pos rfl];simp[Bool.and_comm]
theorem qK(T:List Tk)(S:List Sm)(x:ByteArray)(n:Nat):dM T S x n=aI ((List.range n).flatMap (Dr T S)) x:=by
 rw[nF];unfold dM im;refine jQ (fun j hj=>?_);unfold nC Dr;rw[l5.1]
 cases h:((au S j).k.toList == [36,99])
 ·rw[if_neg (by simp),gD];simp
 ·rw[if_pos rfl];simp
theorem Aj(T:List Tk)(S:List Sm)(x:ByteArray)(n:Nat):im T S ⟨#[36,118]⟩ x n false=aI ((List.range n).flatMap (zT T S)) x:=by
 rw[nF];unfold im;refine jQ (fun j hj=>?_);unfold nC zT;rw[l5.2]
 cases h:((au S j).k.toList == [36,118])
 ·rw[if_neg (by simp),gD];simp
 ·rw[if_pos rfl];simp
theorem IV(l:List Nat)(p:Nat->Bool):(match l.find? p with | some j=>(j:Int) | none=>-1)=-1 ↔ l.any p=false:=by
 cases h:l.find? p with
 | none=>simp only[true_iff];rw[List.any_eq_false];rw[List.find?_eq_none]at h;exact h
 | some j =>
  have h1:=List.find?_some h;have h2:=List.mem_of_find?_eq_some h;have h3:l.any p=true:=List.any_eq_true.2 ⟨j,h2,h1⟩;rw[h3];simp only[Bool.true_eq_false,iff_false];intro h4;have:(0:Int)<=(j:Int):=by omega
  omega
theorem CF(l:List Nat)(p:Nat->Bool):decide (0<=(match l.find? p with | some j=>(j:Int) | none=>-1))=l.any p:=by
 cases h:l.find? p with
 | none =>
  have:=(IV l p).1 (by rw[h]);rw[this];rfl
 | some j =>
  have h3:l.any p=true:=List.any_eq_true.2 ⟨j,List.mem_of_find?_eq_some h,List.find?_some h⟩;rw[h3];simp
theorem pZ(T:List Tk)(S:List Sm)(x:ByteArray)(n:Nat):decide (0<=bn T S x n)=aI ((List.range n).flatMap (Gz T S)) x:=by
 rw[nF];unfold bn;refine(CF (List.range n) (oE T S x)).trans ?_;refine jQ (fun j hj=>?_);unfold oE Gz
 cases h:((cd T (au S j)).toList == [])
 ·rw[if_neg (by simp),qR];simp
 ·rw[if_pos rfl,gD];simp
theorem DG(T:List Tk)(S:List Sm)(x:ByteArray)(n:Nat):decide (0<=fg T S x n)=aI ((i8 S n).flatMap (Dx T S)) x:=by
 rw[nF];unfold i8;rw[rE];unfold fg;refine(CF (List.range n) (qQ T S x n)).trans ?_;refine jQ (fun j hj=>?_);unfold qQ Dx
 cases h:((au S j).k.toList == [36,102])
 ·rw[if_neg (by simp),gD];simp
 ·rw[if_pos rfl,qR];simp[Bool.and_comm]
theorem Bf(T:List Tk)(hT:T.length<=100000)(hall:∀j,j<T.length->aZ T (LS T) j=0):jg T (LS T) (LS T).length/\kG T (LS T) (LS T).length:=by
 have p:=fL T;have hl:(LS T).length<=T.length:=sI T T.length;generalize LS T=S at *;have hw:=fun j (hj:j<S.length)=>zY p j hj (fun q _ h2=>hall q (by have:=(p.s j hj).2;omega))
 refine⟨⟨Nat.le_refl _,by omega,hT,fun j hj=>(hw j hj).1,fun j hj=>(hw j hj).2.1,fun j hj=>?_⟩,fun j hj=>(hw j hj).2.2⟩;have:=(p.s j hj).1.lt;have:=(p.s j hj).2;omega
structure se(T:List Tk)(S:List Sm)(d:Db):Prop where
 con:d.constants=(List.range S.length).flatMap (Dr T S)
 var:∀x,aI d.variables x=aI ((List.range S.length).flatMap (zT T S)) x
 act:pH (zT T S) S d.active (d.blocks.map (·.1))
 typ:pH (Dx T S) S d.typed (d.blocks.map (·.2))
def jJ(T:List Tk)(S:List Sm):List ByteArray:=(List.range S.length).flatMap (Gz T S)
inductive KeyK:List UInt8->Int->Prop
 | c:KeyK [36,99] 7
 | v:KeyK [36,118] 8
 | d:KeyK [36,100] 1
 | f:KeyK [36,102] 2
 | e:KeyK [36,101] 3
 | a:KeyK [36,97] 4
 | p:KeyK [36,112] 5
def jE(y:ByteArray):Bool:=!(y.toList == [36,61])
inductive OpE (T:List Tk) (d:Db):Prop
 | none:gi T=T.length->d.kind=0->d.symbols=[]->d.inProof=false->d.labels=jJ T (LS T)->OpE T d
 | lab:gi T+1=T.length->d.kind=6->d.symbols=[]->d.inProof=false->d.labels=jJ T (LS T)++[tS T (gi T)]->((tS T (gi T)).toList == [])=false->ge (tS T (gi T)) ⟨#[36]⟩=false->OpE T d
 | body (key:ByteArray) (head:Nat) (B:List ByteArray):dY T (gi T)=(key,head)->gi T<head->head<=T.length->KeyK key.toList d.kind->eE T head T.length=B->d.inProof=aI B ⟨#[36,61]⟩->d.symbols=B.takeWhile jE->(d.inProof=true->d.kind=5/\d.symbols≠[]) ->
   d.labels=jJ T (LS T)++(if(aE key||aH key)=true then [tS T (gi T)] else [])->((aE key||aH key)=true->((tS T (gi T)).toList == [])=false)->OpE T d
theorem pH.congr{F F':Nat->List ByteArray}{S:List Sm}{L:List ByteArray}{B:List Nat}(h:pH F S L B)(hF:∀j,j<S.length->F' j=F j):pH F' S L B :=
 ⟨by rw[dj (G:=F) (fun j hj=>hF j (fU hj))];exact h.l,h.b,fun i hi=>by rw[dj (G:=F) (fun j hj=>hF j (fU (List.mem_filter.1 hj).1))];exact h.o i hi⟩
section
variable {T U:List Tk} {S M:List Sm}
theorem mY(ok:jg T S S.length)(j:Nat)(hj:j<S.length):zT (T++U) (S++M) j=zT T S j:=by
 unfold zT;rw[kt S M j hj]
 split
 ·next h=>rw[ti T U _ (ok.v j hj h)]
 ·rfl
theorem sB(ok:jg T S S.length)(j:Nat)(hj:j<S.length):Dr (T++U) (S++M) j=Dr T S j:=by
 unfold Dr;rw[kt S M j hj]
 split
 ·next h=>rw[ti T U _ (ok.c j hj h)]
 ·rfl
theorem sC(hf:kG T S S.length)(j:Nat)(hj:j<S.length):Dx (T++U) (S++M) j=Dx T S j:=by
 unfold Dx;rw[kt S M j hj]
 split
 ·next h=>rw[gJ T U _ (hf j hj h)]
 ·rfl
theorem CK(ok:jg T S S.length)(j:Nat)(hj:j<S.length):Gz (T++U) (S++M) j=Gz T S j:=by
 unfold Gz;rw[kt S M j hj,vU _ (ok.a j hj)]
end
theorem mQ{F F':Nat->List ByteArray}{n:Nat}(h:∀j,j<n->F' j=F j):(List.range n).flatMap F'=(List.range n).flatMap F:=dj (fun j hj=>h j (List.mem_range.1 hj))
theorem ed{F F':Nat->List ByteArray}{n:Nat}(h:∀j,j<n->F' j=F j):(List.range (n+1)).flatMap F'=(List.range n).flatMap F++F' n:=by
 rw[List.range_succ,List.flatMap_append,mQ h];simp
theorem od{T U:List Tk}{S:List Sm}(ok:jg T S S.length):jJ (T++U) S=jJ T S:=by
 unfold jJ;exact mQ (fun j hj=>by have:=CK (U:=U) (M:=[]) ok j hj;rw[List.append_nil]at this;exact this)
theorem qT{T U:List Tk}{S:List Sm}(s:Sm)(ok:jg T S S.length):jJ (T++U) (S++[s])=jJ T S++Gz (T++U) (S++[s]) S.length:=by
 unfold jJ;rw[eB];exact ed (fun j hj=>CK ok j hj)
theorem se.same{T U:List Tk}{S:List Sm}{d d':Db}(h:se T S d)(ok:jg T S S.length)(hf:kG T S S.length)(e1:d'.constants=d.constants)(e2:d'.variables=d.variables)(e3:d'.active=d.active)(e4:d'.typed=d.typed)(e5:d'.blocks=d.blocks):se (T++U) S d':=by
 have hv:∀j,j<S.length->zT (T++U) S j=zT T S j:=fun j hj=>by have:=mY (U:=U) (M:=[]) ok j hj;rw[List.append_nil]at this;exact this
 have hc:∀j,j<S.length->Dr (T++U) S j=Dr T S j:=fun j hj=>by have:=sB (U:=U) (M:=[]) ok j hj;rw[List.append_nil]at this;exact this
 have hg:∀j,j<S.length->Dx (T++U) S j=Dx T S j:=fun j hj=>by have:=sC (U:=U) (M:=[]) hf j hj;rw[List.append_nil]at this;exact this
 exact⟨by rw[e1,mQ hc];exact h.con,fun x=>by rw[e2,mQ hv];exact h.var x,by rw[e3,e5];exact h.act.congr hv,by rw[e4,e5];exact h.typ.congr hg⟩
theorem mh(S:List Sm)(s:Sm):au (S++[s]) S.length=s:=rk S s
theorem se.close{T U:List Tk}{S:List Sm}{d d':Db}(h:se T S d)(ok:jg T S S.length)(hf:kG T S S.length)(s:Sm)(hs:∀o,aY o s.k=o)
  (e1:d'.constants=d.constants++Dr (T++U) (S++[s]) S.length) (e2:∀x,aI d'.variables x=(aI d.variables x||aI (zT (T++U) (S++[s]) S.length) x)) (e3:d'.active=d.active++zT (T++U) (S++[s]) S.length) (e4:d'.typed=d.typed++Dx (T++U) (S++[s]) S.length) (e5:d'.blocks=d.blocks):se (T++U) (S++[s]) d' :=
 ⟨by rw[eB,ed (fun j hj=>sB ok j hj),<-h.con];exact e1,fun x=>by rw[eB,ed (fun j hj=>mY ok j hj),tR,<-h.var];exact e2 x,
  by rw[e3,e5];exact h.act.norm s hs (fun j hj=>mY ok j hj),by rw[e4,e5];exact h.typ.norm s hs (fun j hj=>sC hf j hj)⟩
theorem yh(T:List Tk)(t:Tk)(hT:T.length<=100000)(hall:∀j,j<T.length->aZ T (LS T) j=0):aZ (T++[t]) (LS (T++[t])) T.length =
  if T.length=gi T then cZ T (LS T) t.s (LS T).length
  else if T.length<(dY (T++[t]) (gi T)).2 then(if(aE t.s||aH t.s)=true then 0 else 14)
  else kp T (LS T) (dY (T++[t]) (gi T)).1 t.s (LS T).length (eE T (dY (T++[t]) (gi T)).2 T.length):=by
 obtain⟨ok,hf⟩:=Bf T hT hall;obtain⟨M,hM,hz⟩:=wj T [t];have p:=fL T;rw[hM,Bg];generalize LS T=S at *
 have hc:g9 (S++M) T.length=S.length:=by
  unfold g9;rw[Cv T.length S M hz];exact F7 _ S S.length (fun q hq=>⟨au S q,C1 S q hq,(p.s q hq).2⟩) (fun s hs=>by rw[List.getElem?_eq_none (Nat.le_refl _)]at hs;cases hs)
 unfold aZ;rw[hc,x9 S M _ (Nat.le_refl _),qv]
 by_cases e:T.length=ji S S.length
 ·rw[if_pos e,if_pos e,vN _ ok]
 ·rw[if_neg e,if_neg e]
  split
  ·rfl
  ·next hh=>rw[zv _ _ _ ok hf,Ct T [t] _ _ (by omega) (Nat.le_refl _)]
theorem zO{T:List Tk}{S:List Sm}{d:Db}(h:se T S d)(hl:d.labels=jJ T S)(x:ByteArray):iC T S x S.length=dm d x:=by
 unfold iC dm;rw[pZ,qK,Aj,<-h.con,<-h.var,hl,Bool.or_assoc];rfl
theorem Fc{T:List Tk}{S:List Sm}{d:Db}(h:se T S d)(hl:d.labels=jJ T S)(x:ByteArray):(decide (0<=bn T S x S.length)||(dM T S x S.length||jG T S x S.length))=dE d x:=by
 unfold dE;rw[pZ,qK,C9,<-h.con,<-h.act.l,hl,Bool.or_assoc];rfl
theorem Gc{T:List Tk}{S:List Sm}{d:Db}(h:se T S d):bF S S.length=(d.blocks.length:Int):=by
 have:=h.act.b;rw[List.length_map]at this;exact this.symm
theorem tA{l:List UInt8}{k:ByteArray}(h:k.toList=l)(o:Int):aY o k=if(l == [36,125])=true then(if(l == [36,123])=true then o+1 else o)-1 else(if(l == [36,123])=true then o+1 else o):=by
 unfold aY;rw[h]
theorem kJ{l:List UInt8}{k:ByteArray}(h:k.toList=l):aE k=((l == [36,97])||(l == [36,112]))/\aH k=((l == [36,102])||(l == [36,101]))/\bZ k=((l == [36,46])||(l == [36,123])||(l == [36,125])):=by
 unfold aE aH bZ;rw[h];exact⟨rfl,rfl,rfl⟩
theorem BG{l:List UInt8}{k:ByteArray}(h:k.toList=l):ge k ⟨#[36]⟩=ge ⟨l.toArray⟩ ⟨#[36]⟩:=by
 rw[mI (x:=k) (l:=l) (by rw[h];simp)]
theorem KeyK.dep{k:ByteArray}{n:Int}(h:KeyK k.toList n):(∀o,aY o k=o)/\ge k ⟨#[36]⟩=true/\bZ k=false:=by
 generalize hl:k.toList=l at h;have h1:=fun o=>tA hl o
 have h2:=BG hl;have h3:=(kJ hl).2.2
 cases h <;> exact⟨fun o=>h1 o,h2.trans (by decide +kernel),h3⟩
section
variable {T:List Tk} {t:Tk} {d:Db}
theorem zi(hf:gi T=T.length)(hd:ge t.s ⟨#[36]⟩=true):dY (T++[t]) (gi T)=(t.s,T.length+1):=by
 unfold dY;rw[hf,qv,hd];simp
theorem tY{key:ByteArray}{head:Nat}{n:Int}(hk:dY T (gi T)=(key,head))(hlt:gi T<head)(hh:head<=T.length)(hK:KeyK key.toList n):dY (T++[t]) (gi T)=(key,head):=by
 rw[<-hk]
 by_cases h:gi T+1<T.length
 ·exact xj T [t] _ h
 ·have e:dY T (gi T)=(tS T (gi T),gi T+1):=by
   unfold dY;rw[if_pos (by simp;right;omega)]
  rw[hk]at e;have e1:key=tS T (gi T):=congrArg Prod.fst e;have hs:=hK.dep.2.1;rw[e1]at hs;unfold dY;rw[gJ T [t] _ (by omega),hs];simp
theorem my(T:List Tk)(h:Nat):eE T h T.length=(T.drop h).map (·.s):=by
 unfold eE;rw[List.take_of_length_le (by rw[List.length_drop];exact Nat.le_refl _)]
theorem FR(t:Tk)(h:Nat)(hh:h<=T.length):eE (T++[t]) h (T++[t]).length=eE T h T.length++[t.s]:=by
 rw[my,my,List.drop_append_of_le_length hh];simp
theorem yc(L:List Tk)(t:Tk)(hL:∀u∈L,(u.s.toList == [36,46])=false)(ht:(t.s.toList == [36,46])=true):kZ (L++[t])=(L.map (·.s)).takeWhile jE:=by
 induction L with
 | nil=>rw[List.nil_append,kZ,if_pos (qs ht)];rfl
 | cons a L ih =>
  have h1:=hL a (by simp);rw[List.cons_append,kZ,List.map_cons]
  cases h2:(a.s.toList == [36,61])
  ·rw[if_neg (by unfold lL;rw[h1,h2];simp),List.takeWhile_cons_of_pos (by unfold jE;rw[h2];rfl),ih (fun u hu=>hL u (by simp[hu]))]
  ·rw[if_pos (by unfold lL;rw[h2];rfl),List.takeWhile_cons_of_neg (by unfold jE;rw[h2];simp)]
theorem Em(T:List Tk)(h:Nat)(hh:gi T<=h):∀u∈T.drop h,bZ u.s=false:=by
 intro u hu;obtain⟨q,hq,e⟩:=List.getElem_of_mem hu;rw[List.length_drop]at hq;have:=(fL T).n (h+q) (by unfold gi at hh;omega) (by omega);rw[List.getElem_drop]at e;unfold tS at this;rw[List.getD_eq_getElem?_getD,List.getElem?_eq_getElem (by omega)]at this;rw[<-e];exact this
theorem Gr(B:List ByteArray)(h:aI B ⟨#[36,61]⟩=false):∀y∈B,jE y=true:=by
 intro y hy;unfold aI at h;rw[List.any_eq_false]at h;have:=h y hy;have e:(⟨#[36,61]⟩:ByteArray).toList=[36,61]:=by decide +kernel
 rw[e]at this;unfold jE;simpa using this
theorem Fh(B:List ByteArray)(h:∀y∈B,jE y=true):B.takeWhile jE=B:=by
 induction B with
 | nil=>rfl
 | cons a B ih=>rw[List.takeWhile_cons_of_pos (h a (by simp)),ih (fun y hy=>h y (by simp[hy]))]
theorem sH(B:List ByteArray)(h:aI B ⟨#[36,61]⟩=false):B.takeWhile jE=B:=Fh B (Gr B h)
theorem Ih(B:List ByteArray)(y:ByteArray)(h:aI B ⟨#[36,61]⟩=true):(B++[y]).takeWhile jE=B.takeWhile jE:=by
 have e:(⟨#[36,61]⟩:ByteArray).toList=[36,61]:=by decide +kernel
 induction B with
 | nil=>cases h
 | cons a B ih =>
  rw[List.cons_append]
  cases h2:(a.toList == [36,61])
  ·have h3:aI B ⟨#[36,61]⟩=true:=by
    unfold aI at h ⊢;rw[List.any_cons,e,h2,Bool.false_or]at h;rw[e];exact h
   rw[List.takeWhile_cons_of_pos (by unfold jE;rw[h2];rfl),List.takeWhile_cons_of_pos (by unfold jE;rw[h2];rfl),ih h3]
  ·rw[List.takeWhile_cons_of_neg (by unfold jE;rw[h2];simp),List.takeWhile_cons_of_neg (by unfold jE;rw[h2];simp)]
end
end Go.Proofs.YtpddjjabfbfifaaGreat

import Derived.Test.YtpddjjabfbfifaaGreatG07
import Derived.Test.YtpddjjabfbfifaaGreatG23
namespace Go.Proofs.YtpddjjabfbfifaaGreat
open Go.RowKit
set_option maxHeartbeats 40000000
def ka(nm d:ByteArray)(i:qw):Tk:=⟨i.text,i.rule,nm,aL d i.pos,aW d i.pos⟩
def JG(nm d:ByteArray):Nat->Nat->List Tk
 | 0,_=>[]
 | f+1,k=>ka nm d (bi d k).1 :: (if aG (bi d k).1=true then JG nm d f (bi d k).2 else [])
def lo(nm d:ByteArray)(k:Nat):List Tk:=JG nm d (d.size-k+1) k
theorem GE(nm d:ByteArray)(f k:Nat)(hk:k<=d.size)(hf:d.size-k+1<=f):JG nm d f k=lo nm d k:=by
 unfold lo
 suffices h:∀f g k,k<=d.size->d.size-k+1<=f->d.size-k+1<=g->JG nm d f k=JG nm d g k from h _ _ _ hk hf (Nat.le_refl _)
 clear hf hk f k;intro f
 induction f with
 | zero=>intro g k _ h;omega
 | succ f ih =>
  intro g k hk hf hg
  cases g with
  | zero=>omega
  | succ g =>
   rw[JG,JG]
   split
   ·next h =>
    have hl:=fw d k hk;have hl2:=hl.2.2 h;rw[ih g _ hl.2.1 (by omega) (by omega)]
   ·rfl
theorem jO(nm d:ByteArray)(k:Nat)(hk:k<=d.size)(h:aG (bi d k).1=true):lo nm d k=ka nm d (bi d k).1 :: lo nm d (bi d k).2:=by
 have hl:=fw d k hk;have hl2:=hl.2.2 h
 conv=>lhs;unfold lo
 rw[JG,if_pos h,GE nm d _ _ hl.2.1 (by omega)]
theorem iV(nm d:ByteArray)(k:Nat)(h:aG (bi d k).1=false):lo nm d k=[ka nm d (bi d k).1]:=by
 unfold lo;rw[JG,if_neg (by simp[h])]
theorem Bq(d:ByteArray)(k:Nat)(h:k<d.size)(hb:cv (aF d k)=true):bi d k=bi d (k+1):=by
 unfold bi;rw[Cq d k h hb]
theorem rP(nm d:ByteArray)(k:Nat)(h:k<d.size)(hb:cv (aF d k)=true):lo nm d k=lo nm d (k+1):=by
 have e:=Bq d k h hb
 cases hw:aG (bi d k).1
 ·rw[iV nm d k hw,iV nm d (k+1) (by rw[<-e];exact hw),e]
 ·rw[jO nm d k (by omega) hw,jO nm d (k+1) (by omega) (by rw[<-e];exact hw),e]
theorem za(d:ByteArray)(n:Nat):∀a,(∀j,a<=j->j<a+n->j<d.size/\cv (aF d j)=false/\eG (aF d j)=true)->ci d a=ci d (a+n):=by
 induction n with
 | zero=>intro a _;rfl
 | succ n ih =>
  intro a h;have h0:=h a (by omega) (by omega);rw[Co d a h0.1 h0.2.1 h0.2.2,ih (a+1) (fun j h1 h2=>h j (by omega) (by omega))]
  congr 1;omega
theorem Br{n:Int}(h:oF n=false)(hb:cv n=false):eG n=true:=by
 unfold oF at h;rw[hb]at h;simpa using h
theorem zU(d:ByteArray)(a z:Nat)(haz:a<z)(hz:z<=d.size)(hj:∀j,a<=j->j<z->cv (aF d j)=false/\eG (aF d j)=true)(he:z<d.size->cv (aF d z)=true):bi d a=(⟨d.extract a z,0,false,a⟩,z):=by
 have hw:=za d (z-a) a (fun j h1 h2=>⟨by omega,hj j h1 (by omega)⟩);rw[show a+(z-a)=z by omega]at hw;refine wh d a a z (qd d a (fun h=>?_)).symm hw.symm (fun h=>?_) haz
 ·rw[(hj a (Nat.le_refl _) haz).1]at h;simp at h
 ·rw[he h.1]at h;simp at h
theorem mn(d:ByteArray)(i:Nat):∀j,cM d i<=j->j<i->cv (aF d j)=false:=by
 induction i with
 | zero=>intro j _ h;omega
 | succ i ih =>
  intro j h1 h2;rw[cM]at h1
  split at h1
  ·omega
  ·next hb =>
   by_cases e:j=i
   ·rw[e];simpa using hb
   ·exact ih j h1 (by omega)
theorem tV(nm d:ByteArray)(i:Nat)(hi:i<=d.size)(hb:∀j,j<i->oF (aF d j)=false):lo nm d 0=hZ nm d i++lo nm d (cM d i):=by
 induction i with
 | zero=>rfl
 | succ i ih =>
  have ih:=ih (by omega) (fun j hj=>hb j (by omega));rw[hZ,cM]
  cases hbl:cv (aF d i)
  ·rw[if_neg (by simp),if_neg (by simp)];exact ih
  ·rw[if_pos rfl,if_pos rfl]
   have hl:=mu d i;unfold gQ
   split
   ·next e =>
    rw[ih,e,rP nm d i (by omega) hbl]
   ·next e =>
    have hr:=zU d (cM d i) i (by omega) (by omega) (fun j h1 h2=>⟨mn d i j h1 h2,Br (hb j (by omega)) (mn d i j h1 h2)⟩) (fun _=>hbl);rw[ih,jO nm d (cM d i) (by omega) (by rw[hr];rfl),hr,<-rP nm d i (by omega) hbl];simp[ka,kL]
theorem AL(nm d:ByteArray):fS nm d=lo nm d 0:=by
 unfold fS
 cases hf:iD d with
 | some i =>
  unfold iD at hf;rw[List.find?_range_eq_some]at hf;obtain⟨h1,h2,h3⟩:=hf;have h2:=List.mem_range.1 h2;have hb:∀j,j<i->oF (aF d j)=false:=fun j hj=>by simpa using h3 j hj
  have hl:=mu d i;have hin:∀j,cM d i<=j->j<cM d i+(i-cM d i)->j<d.size/\cv (aF d j)=false/\eG (aF d j)=true:=fun j h1 h2=>⟨by omega,mn d i j h1 (by omega),Br (hb j (by omega)) (mn d i j h1 (by omega))⟩
  have hp:eG (aF d i)=false/\cv (aF d i)=false:=by
   unfold oF at h1;simpa using h1
  have hw:=za d (i-cM d i) (cM d i) hin;rw[show cM d i+(i-cM d i)=i by omega]at hw
  have hsk:cM d i=skip d (cM d i):=(qd d _ (fun h=>by
   by_cases e:cM d i=i
   ·rw[e,hp.2]at h;simp at h
   ·rw[(hin (cM d i) (Nat.le_refl _) (by omega)).2.1]at h;simp at h)).symm
  have hr:=yF d (cM d i) (cM d i) i hsk hw.symm h2 hp.2 hp.1;simp only;rw[tV nm d i (by omega) hb,iV nm d (cM d i) (by rw[hr];rfl),hr];simp[ka,kL]
 | none =>
  have hb:∀j,j<d.size->oF (aF d j)=false:=fun j hj=>by
   unfold iD at hf;rw[List.find?_eq_none]at hf;simpa using hf j (List.mem_range.2 hj)
  have hl:=mu d d.size;have hend:bi d d.size=(⟨⟨#[]⟩,0,true,d.size⟩,d.size):=yJ d d.size d.size d.size (qd d _ (fun h=>by omega)).symm rfl (fun h=>by omega) (Nat.le_refl _);simp only;rw[tV nm d d.size (Nat.le_refl _) hb];unfold gQ
  split
  ·next e =>
   rw[e,iV nm d d.size (by rw[hend];rfl),hend];simp[ka,kL]
  ·next e =>
   have hr:=zU d (cM d d.size) d.size (by omega) (Nat.le_refl _) (fun j h1 h2=>⟨mn d _ j h1 h2,Br (hb j h2) (mn d _ j h1 h2)⟩) (fun h=>by omega);rw[jO nm d (cM d d.size) hl (by rw[hr];rfl),hr,iV nm d d.size (by rw[hend];rfl),hend];simp[ka,kL]
def Jn(nm d:ByteArray):Nat->Nat->List Tk
 | 0,_=>[]
 | f+1,k=>ka nm d (av d k).1 :: (if aG (av d k).1=true then Jn nm d f (av d k).2 else [])
def kt(nm d:ByteArray)(k:Nat):List Tk:=Jn nm d (d.size-k+1) k
theorem GC(nm d:ByteArray)(f k:Nat)(hk:k<=d.size)(hf:d.size-k+1<=f):Jn nm d f k=kt nm d k:=by
 unfold kt
 suffices h:∀f g k,k<=d.size->d.size-k+1<=f->d.size-k+1<=g->Jn nm d f k=Jn nm d g k from h _ _ _ hk hf (Nat.le_refl _)
 clear hf hk f k;intro f
 induction f with
 | zero=>intro g k _ h;omega
 | succ f ih =>
  intro g k hk hf hg
  cases g with
  | zero=>omega
  | succ g =>
   rw[Jn,Jn]
   split
   ·next h =>
    have hl:=eK d k hk;have hl2:=hl.2.2 h;rw[ih g _ hl.2.1 (by omega) (by omega)]
   ·rfl
theorem i6(nm d:ByteArray)(k:Nat)(hk:k<=d.size)(h:aG (av d k).1=true):kt nm d k=ka nm d (av d k).1 :: kt nm d (av d k).2:=by
 have hl:=eK d k hk;have hl2:=hl.2.2 h
 conv=>lhs;unfold kt
 rw[Jn,if_pos h,GC nm d _ _ hl.2.1 (by omega)]
theorem iW(nm d:ByteArray)(k:Nat)(h:aG (av d k).1=false):kt nm d k=[ka nm d (av d k).1]:=by
 unfold kt;rw[Jn,if_neg (by simp[h])]
theorem AZ(nm d:ByteArray)(k j:Nat)(hk:k<=d.size)(hj:j<=d.size)(h:av d k=av d j):kt nm d k=kt nm d j:=by
 cases hw:aG (av d k).1
 ·rw[iW nm d k hw,iW nm d j (by rw[<-h];exact hw),h]
 ·rw[i6 nm d k hk hw,i6 nm d j hj (by rw[<-h];exact hw),h]
theorem CL(s:ByteArray)(c:UInt8):f8 s ⟨#[36,c]⟩=(List.range s.size).any (fun i=>decide (1<=i)&&(aF s (i-1)==36)&&(aF s i==(c.toNat:Int))):=by
 have hsz:(⟨#[36,c]⟩:ByteArray).size=2:=rfl
 have hat:∀i,i+2<=s.size->(pb s ⟨#[36,c]⟩ i=((aF s i==36)&&(aF s (i+1)==(c.toNat:Int)))):=fun i hi=>by
  have e:(s.extract i (i+2)).toList=[s[i]'(by omega),s[i+1]'(by omega)]:=by
   apply List.ext_getElem
   ·rw[ByteArray.toList_eq];simp;omega
   ·intro n h1 h2
    simp only[List.length_cons,List.length_nil]at h2;have hn:n=0∨n=1:=by omega
    simp only[ByteArray.toList_eq,ByteArray.data_extract,Array.getElem_toList,Array.getElem_extract]
    rcases hn with rfl | rfl <;> rfl
  unfold pb;rw[hsz,e,bI s i (by omega),bI s (i+1) (by omega)];have e2:(⟨#[36,c]⟩:ByteArray).toList=[36,c]:=by rw[ByteArray.toList_eq]
  rw[e2]
  have b1:∀x:UInt8,((x.toNat:Int)==36)=(x==36):=fun x=>by
   rw[Bool.eq_iff_iff];simp only[beq_iff_eq]
   constructor
   ·intro h;exact UInt8.toNat_inj.1 (by rw[show x.toNat=36 by omega];rfl)
   ·rintro rfl;rfl
  have b2:∀x:UInt8,((x.toNat:Int)==(c.toNat:Int))=(x==c):=fun x=>by
   rw[Bool.eq_iff_iff];simp only[beq_iff_eq]
   constructor
   ·intro h;exact UInt8.toNat_inj.1 (by omega)
   ·rintro rfl;rfl
  rw[b1,b2];simp[Bool.beq_eq_decide_eq,Bool.decide_and]
 unfold f8;rw[hsz,Bool.eq_iff_iff,List.any_eq_true,List.any_eq_true]
 constructor
 ·rintro ⟨i,hi,h⟩
  have hi:=List.mem_range.1 hi;rw[Bool.and_eq_true,decide_eq_true_eq]at h;rw[hat i h.1]at h;exact⟨i+1,List.mem_range.2 (by omega),by rw[Nat.add_sub_cancel,Bool.and_eq_true,Bool.and_eq_true,decide_eq_true_eq];rw[Bool.and_eq_true]at h;exact⟨⟨by omega,h.2.1⟩,h.2.2⟩⟩
 ·rintro ⟨i,hi,h⟩
  have hi:=List.mem_range.1 hi;rw[Bool.and_eq_true,Bool.and_eq_true,decide_eq_true_eq]at h;refine⟨i-1,List.mem_range.2 (by omega),?_⟩;rw[Bool.and_eq_true,decide_eq_true_eq,hat (i-1) (by omega),Bool.and_eq_true,show i-1+1=i by omega];exact⟨by omega,h.1.2,h.2⟩
theorem rZ(s:ByteArray):jm s=(f8 s ⟨#[36,40]⟩||f8 s ⟨#[36,41]⟩):=by
 rw[CL,CL,Bool.eq_iff_iff,Bool.or_eq_true];unfold jm;simp only[List.any_eq_true,Bool.and_eq_true,Bool.or_eq_true]
 constructor
 ·rintro ⟨i,hi,h1,h2 | h2⟩
  ·exact Or.inl ⟨i,hi,h1,h2⟩
  ·exact Or.inr ⟨i,hi,h1,h2⟩
 ·rintro (⟨i,hi,h1,h2⟩ | ⟨i,hi,h1,h2⟩)
  ·exact⟨i,hi,h1,Or.inl h2⟩
  ·exact⟨i,hi,h1,Or.inr h2⟩
theorem ia(s:ByteArray):f8 s ⟨#[36]⟩=dw s:=by
 have hsz:(⟨#[36]⟩:ByteArray).size=1:=rfl
 have hat:∀i,i+1<=s.size->(pb s ⟨#[36]⟩ i=(aF s i==36)):=fun i hi=>by
  have e:(s.extract i (i+1)).toList=[s[i]'(by omega)]:=by
   apply List.ext_getElem
   ·rw[ByteArray.toList_eq];simp;omega
   ·intro n h1 h2
    simp only[List.length_cons,List.length_nil]at h2;have hn:n=0:=by omega
    simp only[ByteArray.toList_eq,ByteArray.data_extract,Array.getElem_toList,Array.getElem_extract];subst hn;rfl
  unfold pb;rw[hsz,e,bI s i (by omega)];have e2:(⟨#[36]⟩:ByteArray).toList=[36]:=by rw[ByteArray.toList_eq]
  rw[e2,Bool.eq_iff_iff];simp only[beq_iff_eq,List.cons.injEq,and_true]
  constructor
  ·intro h;rw[h];rfl
  ·intro h;exact UInt8.toNat_inj.1 (by rw[show(s[i]'(by omega)).toNat=36 by omega];rfl)
 unfold f8 dw;rw[hsz,Bool.eq_iff_iff,List.any_eq_true,List.any_eq_true]
 constructor
 ·rintro ⟨i,hi,h⟩
  rw[Bool.and_eq_true,decide_eq_true_eq]at h;rw[hat i h.1]at h;exact⟨i,List.mem_range.2 (by omega),h.2⟩
 ·rintro ⟨i,hi,h⟩
  have hi:=List.mem_range.1 hi;exact⟨i,List.mem_range.2 (by omega),by rw[Bool.and_eq_true,decide_eq_true_eq,hat i (by omega)];exact⟨by omega,h⟩⟩
theorem pP(d:ByteArray)(k:Nat)(hk:k<=d.size):(aG (bi d k).1=true->((bi d k).1.text.toList == [])=false/\(bi d k).1.rule=0)/\(aG (bi d k).1=false->(bi d k).1.text=⟨#[]⟩/\((bi d k).1.fin=true->(bi d k).1.rule=0)):=by
 have a:=wJ d k hk;have b:=o8 d (skip d k) a.2;unfold bi;simp only
 split
 ·exact⟨fun h=>by simp[aG]at h,fun _=>⟨rfl,fun h=>by cases h⟩⟩
 ·split
  ·exact⟨fun h=>by simp[aG]at h,fun _=>⟨rfl,fun _=>rfl⟩⟩
  ·next h1 h2 =>
   refine⟨fun _=>⟨?_,rfl⟩,fun h=>by simp[aG]at h⟩
   have hl:(d.extract (skip d k) (ci d (skip d k))).size=ci d (skip d k)-skip d k:=by
    rw[ByteArray.size_extract];omega
   cases e:((d.extract (skip d k) (ci d (skip d k))).toList == [])
   ·rfl
   ·have e:(d.extract (skip d k) (ci d (skip d k))).toList=[]:=by simpa using e
    have:=congrArg List.length e;rw[ByteArray.toList_eq]at this;have hs:ci d (skip d k)-skip d k=0∨d.size-skip d k=0:=by simpa using this
    omega
theorem Fx(nm d:ByteArray)(f:Nat):∀k,k<=d.size->d.size-k+1<=f ->
  bJ true (lo nm d k)=(if aG (aQ d k).1=true then bJ false (lo nm d (aQ d k).2) else [ka nm d (aQ d k).1]):=by
 induction f with
 | zero=>intro k _ h;omega
 | succ f ih =>
  intro k hk hf;have hl:=fw d k hk;obtain⟨t1,t2⟩:=pP d k hk
  cases hw:aG (bi d k).1
  ·obtain⟨e1,e2⟩:=t2 hw
   rw[iV nm d k hw]
   cases hfn:(bi d k).1.fin
   ·have hr:((bi d k).1.rule==0)=false:=by
     unfold aG at hw;rw[hfn]at hw;simpa using hw
    rw[rS d k hw hfn,hw,if_neg (by simp),bJ,if_pos (by exact hr)];rw[bJ]
   ·rw[pZ d k hw hfn,if_neg (by simp[aG]),bJ,if_neg (by simp[ka,e2 hfn]),if_neg (by simp[ka,Aa,e1]),if_pos (by simp[ka,Aa,e1]),bJ]
    rfl
  ·obtain⟨e1,e2⟩:=t1 hw
   have hl2:=hl.2.2 hw;rw[jO nm d k hk hw]
   cases hc:((bi d k).1.text.toList == [36,41])
   ·cases hb:jm (bi d k).1.text
    ·rw[sZ d k hk hw hc hb,bJ,if_neg (by simp[ka,e2]),if_neg (by simp only[ka,Aa];rw[hc];simp),if_neg (by simp only[ka,Aa];rw[e1];simp),if_neg (by rw[<-rZ];simp only[ka];rw[hb];simp)]
     exact ih _ hl.2.1 (by omega)
    ·rw[pU d k hw hc hb,if_neg (by simp[aG]),bJ,if_neg (by simp[ka,e2]),if_neg (by simp only[ka,Aa];rw[hc];simp),if_neg (by simp only[ka,Aa];rw[e1];simp),if_pos (by rw[<-rZ];exact hb)]
     rfl
   ·rw[oG d k hw hc,if_pos hw,bJ,if_neg (by simp[ka,e2]),if_pos (by simp only[ka,Aa];exact hc)]
theorem Ep(nm d:ByteArray)(f:Nat):∀k,k<=d.size->d.size-k+1<=f->bJ false (lo nm d k)=kt nm d k:=by
 induction f with
 | zero=>intro k _ h;omega
 | succ f ih =>
  intro k hk hf;have hl:=fw d k hk;obtain⟨t1,t2⟩:=pP d k hk
  cases hw:aG (bi d k).1
  ·obtain⟨e1,e2⟩:=t2 hw
   have hn:=px d k (Or.inl hw);rw[iV nm d k hw,iW nm d k (by rw[hn];exact hw),hn,bJ,if_neg (by simp[ka,Aa,e1]),bJ]
  ·have hl2:=hl.2.2 hw
   rw[jO nm d k hk hw]
   cases hc:((bi d k).1.text.toList == [36,40])
   ·have hn:=px d k (Or.inr hc)
    rw[i6 nm d k hk (by rw[hn];exact hw),hn,bJ,if_neg (by simp only[ka,Aa];rw[hc];simp),ih _ hl.2.1 (by omega)]
   ·have hcl:=gU d (bi d k).2 hl.2.1
    rw[bJ,if_pos (by simp only[ka,Aa];exact hc),Fx nm d _ _ hl.2.1 (Nat.le_refl _)]
    cases hcw:aG (aQ d (bi d k).2).1
    ·have hn:=rQ d k hw hc hcw
     rw[if_neg (by simp),iW nm d k (by rw[hn];exact hcw),hn]
    ·have hn:=Dc d k hk hw hc hcw
     rw[if_pos rfl,ih _ hcl.2 (by omega)];exact(AZ nm d k _ hk hcl.2 hn).symm
theorem wg(fs:Fs)(k:Nat):oK fs k=kt (aC fs k) (aj fs k) 0:=by
 unfold oK;rw[AL];exact Ep _ _ _ 0 (Nat.zero_le _) (Nat.le_refl _)
theorem gD(T U:List Tk)(i:Nat)(h:i<T.length):tS (T++U) i=tS T i:=by
 unfold tS;rw[List.getD_eq_getElem?_getD,List.getD_eq_getElem?_getD,List.getElem?_append_left h]
theorem pX(T:List Tk)(t:Tk):tS (T++[t]) T.length=t.s:=by
 unfold tS;rw[List.getD_eq_getElem?_getD,List.getElem?_append_right (Nat.le_refl _),Nat.sub_self];rfl
theorem xM(T U:List Tk)(b:Nat)(h:b+1<T.length):dZ (T++U) b=dZ T b:=by
 unfold dZ;rw[gD T U b (by omega),gD T U (b+1) h,List.length_append];have e1:decide (T.length+U.length<=b+1)=false:=by simp;omega
 have e2:decide (T.length<=b+1)=false:=by simp;omega
 rw[e1,e2]
theorem Fl(T U:List Tk)(b i:Nat)(hb:b<=i)(hi:i<T.length)(he:bY (tS T i)=true):dZ (T++U) b=dZ T b:=by
 by_cases e:b=i
 ·subst e
  unfold dZ;rw[gD T U b hi,(km he).1];simp
 ·exact xM T U b (by omega)
theorem tp(T U:List Tk)(i:Nat)(hi:i<=T.length):dR (T++U) i=dR T i:=by
 induction i with
 | zero=>rfl
 | succ i ih =>
  rw[dR,dR,ih (by omega),gD T U i (by omega)]
  cases he:bY (tS T i)
  ·rfl
  ·rw[Fl T U _ i (If T i) (by omega) he]
theorem AT(T:List Tk)(i k:Nat):∃M,(dR T (i+k)).1=(dR T i).1++M/\∀m∈M,i<m.z:=by
 induction k with
 | zero=>exact⟨[],by simp,by simp⟩
 | succ k ih =>
  obtain⟨M,h1,h2⟩:=ih;rw[show i+(k+1)=(i+k)+1 by omega,dR]
  split
  ·refine⟨M++[⟨(dR T (i+k)).2,i+k+1,(dZ T (dR T (i+k)).2).2,(dZ T (dR T (i+k)).2).1⟩],by simp only[h1,List.append_assoc],fun m hm=>?_⟩
   rcases List.mem_append.1 hm with h | h
   ·exact h2 m h
   ·rw[List.mem_singleton.1 h];show i<i+k+1;omega
  ·exact⟨M,h1,h2⟩
theorem vH(T U:List Tk):∃M,as (T++U)=as T++M/\∀m∈M,T.length<m.z:=by
 obtain⟨M,h1,h2⟩:=AT (T++U) T.length U.length;refine⟨M,?_,h2⟩;unfold as;rw[List.length_append,h1,tp T U _ (Nat.le_refl _)]
def gi(T:List Tk):Nat:=(dR T T.length).2
theorem Ca(T:List Tk):gi T=ji (as T) (as T).length:=(fM T).fr
theorem ph(T:List Tk)(t:Tk):as (T++[t])=(if bY t.s=true then as T++[⟨gi T,T.length+1,(dZ (T++[t]) (gi T)).2,(dZ (T++[t]) (gi T)).1⟩] else as T)/\gi (T++[t])=(if bY t.s=true then T.length+1 else gi T):=by
 unfold as gi;rw[List.length_append,List.length_cons,List.length_nil,dR,tp T [t] T.length (Nat.le_refl _),pX]
 split <;> exact⟨rfl,rfl⟩
theorem kq(S M:List Sm)(j:Nat)(h:j<S.length):au (S++M) j=au S j:=by
 unfold au;rw[List.getD_eq_getElem?_getD,List.getD_eq_getElem?_getD,List.getElem?_append_left h]
theorem yj(S M:List Sm)(n:Nat)(h:n<=S.length):ji (S++M) n=ji S n:=by
 unfold ji
 split
 ·rw[kq S M (n-1) (by omega)]
 ·rfl
theorem C4(i:Nat)(S M:List Sm)(h:∀m∈M,i<m.z):lQ i (S++M)=lQ i S:=by
 induction S with
 | nil =>
  cases M with
  | nil=>rfl
  | cons m M =>
   have:=h m (by simp)
   show(if m.z<=i then lQ i M+1 else 0)=0
   rw[if_neg (by omega)]
 | cons s S ih=>rw[List.cons_append,lQ,lQ,ih]
theorem pa(S M:List Sm)(j n:Nat)(h:n<=S.length):bC (S++M) j n=bC S j n:=by
 unfold bC
 by_cases hj:j<=S.length
 ·rw[List.drop_append_of_le_length hj,List.take_append_of_le_length (by rw[List.length_drop];omega)]
 ·rw[show n-j=0 by omega];simp
theorem jL(S M:List Sm)(n:Nat)(h:n<=S.length):bF (S++M) n=bF S n:=by
 unfold bF;rw[List.take_append_of_le_length h]
theorem wC(L M:List Tk)(h:∃u∈L,lG u.s=true):lk (L++M)=lk L:=by
 induction L with
 | nil=>obtain⟨u,hu,-⟩:=h;cases hu
 | cons a L ih =>
  rw[List.cons_append,lk,lk]
  split
  ·rfl
  ·next hs =>
   rw[ih];obtain⟨u,hu,h2⟩:=h
   rcases List.mem_cons.1 hu with rfl | hu
   ·exact absurd h2 hs
   ·exact⟨u,hu,h2⟩
theorem DB{T:List Tk}{h:Nat}(hs:eE T h):∃u∈T.drop h,lG u.s=true:=by
 obtain⟨e,h1,h2,h3⟩:=hs;refine⟨T[e],?_,?_⟩
 ·rw[List.mem_iff_getElem?]
  exact⟨e-h,by rw[List.getElem?_drop,show h+(e-h)=e by omega,List.getElem?_eq_getElem h2]⟩
 ·unfold tS at h3
  rw[List.getD_eq_getElem?_getD,List.getElem?_eq_getElem h2]at h3;exact h3
theorem tF(T U:List Tk)(h:Nat)(hs:eE T h):bV (T++U) h=bV T h:=by
 have hl:h<=T.length:=by obtain⟨e,h1,h2,-⟩:=hs;omega
 unfold bV;rw[List.drop_append_of_le_length hl,wC _ _ (DB hs)]
theorem jU{n:Nat}{p q:Nat->Bool}(h:∀j,j<n->p j=q j):(List.range n).any p=(List.range n).any q:=by
 rw[Bool.eq_iff_iff,List.any_eq_true,List.any_eq_true]
 constructor
 ·rintro ⟨j,hj,h1⟩;exact⟨j,hj,by rw[<-h j (List.mem_range.1 hj)];exact h1⟩
 ·rintro ⟨j,hj,h1⟩;exact⟨j,hj,by rw[h j (List.mem_range.1 hj)];exact h1⟩
theorem sP{l:List Nat}{p q:Nat->Bool}(h:∀j∈l,p j=q j):l.find? p=l.find? q:=by
 induction l with
 | nil=>rfl
 | cons a l ih =>
  rw[List.find?_cons,List.find?_cons,h a (by simp),ih (fun j hj=>h j (by simp[hj]))]
section
variable {T U:List Tk} {S M:List Sm} {n:Nat}
theorem tE(key x:ByteArray)(act:Bool)(hn:n<=S.length)(hk:∀j,j<n->((au S j).k.toList==key.toList)=true->eE T (au S j).h):io (T++U) (S++M) key x n act=io T S key x n act:=by
 unfold io;refine jU (fun j hj=>?_);unfold ny;rw[kq S M j (by omega),pa S M j n hn]
 cases h:((au S j).k.toList==key.toList)
 ·rfl
 ·rw[tF T U _ (hk j hj h)]
theorem rj(x:ByteArray)(ok:jg T S n):dM (T++U) (S++M) x n=dM T S x n:=tE _ x _ ok.m (by rw[l4.1];exact ok.c)
theorem C9(x:ByteArray)(ok:jg T S n):jF (T++U) (S++M) x n=jF T S x n:=tE _ x _ ok.m (by rw[l4.2];exact ok.v)
theorem vO(s:Sm)(h:s.a<T.length):cg (T++U) s=cg T s:=by
 unfold cg;rw[gD T U s.a h]
theorem qn(x:ByteArray)(ok:jg T S n):bn (T++U) (S++M) x n=bn T S x n:=by
 unfold bn
 rw[sP (q:=oD T S x) (fun j hj=>by
  have hj:=List.mem_range.1 hj;have:=ok.m;unfold oD;rw[kq S M j (by omega),vO _ (ok.a j hj)])]
theorem wi(x:ByteArray)(ok:jg T S n):iC (T++U) (S++M) x n=iC T S x n:=by
 unfold iC;rw[qn x ok,rj x ok,tE _ x _ ok.m (by rw[l4.2];exact ok.v)]
theorem Dj(x:ByteArray)(ok:jg T S n)(hf:kJ T S n):fj (T++U) (S++M) x n=fj T S x n:=by
 unfold fj
 rw[sP (q:=rk T S x n) (fun j hj=>by
  have hj:=List.mem_range.1 hj;have:=ok.m;unfold rk;rw[kq S M j (by omega),pa S M j n ok.m]
  cases h:((au S j).k.toList == [36,102])
  ·rfl
  ·rw[gD T U _ (hf j hj h)])]
theorem Dw(x:ByteArray)(con:Bool)(B:List ByteArray)(ok:jg T S n):iY (T++U) (S++M) x n con B=iY T S x n con B:=by
 unfold iY;rw[wi x ok,qn x ok,rj x ok,C9 x ok]
theorem Am(key x:ByteArray)(B:List ByteArray)(ok:jg T S n)(hf:kJ T S n):ie (T++U) (S++M) key x n B=ie T S key x n B:=by
 unfold ie;rw[rj x ok,C9 x ok,Dj x ok hf]
theorem zg(key x:ByteArray)(B:List ByteArray)(ok:jg T S n)(hf:kJ T S n):kC (T++U) (S++M) key x n B=kC T S key x n B:=by
 unfold kC;rw[Dw x _ B ok,Am key x B ok hf]
theorem wt(x:ByteArray)(ok:jg T S n):cZ (T++U) (S++M) x n=cZ T S x n:=by
 unfold cZ;rw[jL S M n ok.m,wi x ok]
end
theorem C3(T U:List Tk)(h i:Nat)(hh:h<=i)(hi:i<=T.length):eF (T++U) h i=eF T h i:=by
 unfold eF;rw[List.drop_append_of_le_length (by omega),List.take_append_of_le_length (by rw[List.length_drop];omega)]
theorem uI(T U:List Tk)(hT:T.length<=100000)(i:Nat)(hi:i<T.length)(hall:∀j,j<i->a9 T (as T) j=0):a9 (T++U) (as (T++U)) i=a9 T (as T) i:=by
 obtain⟨ok,hf⟩:=J3 T hT i hi hall;obtain⟨M,hM,hz⟩:=vH T U;rw[hM];generalize as T=S at *;have hc:h9 (S++M) i=h9 S i:=C4 i S M (fun m hm=>by have:=hz m hm;omega);have hb:=In S i;unfold a9;rw[hc,yj S M _ ok.m,gD T U i hi]
 by_cases e:i=ji S (h9 S i)
 ·rw[if_pos e,if_pos e,wt _ ok]
 ·rw[if_neg e,if_neg e,xM T U _ (by omega)]
  split
  ·rfl
  ·next hh =>
   rw[zg _ _ _ ok hf,C3 T U _ i (by omega) (by omega)]
theorem po(T U:List Tk)(hT:T.length<=100000)(h:∀j,j<T.length->a9 T (as T) j=0):∀j,j<T.length->a9 (T++U) (as (T++U)) j=0:=fun j hj=>by
 rw[uI T U hT j hj (fun q hq=>h q (by omega))];exact h j hj
def rM(o:Int)(L:List Sm):Int:=L.foldl (fun o s=>aY o s.k) o
theorem vw(o c:Int)(k:ByteArray):aY (o+c) k=aY o k+c:=by
 unfold aY
 split <;> split <;> omega
theorem zX(L:List Sm):∀o c,rM (o+c) L=rM o L+c:=by
 induction L with
 | nil=>intro o c;rfl
 | cons s L ih =>
  intro o c
  show rM (aY (o+c) s.k) L=rM (aY o s.k) L+c
  rw[vw,ih]
theorem Fm(L:List Sm)(s:Sm):∀o,oy o (L++[s])=(oy o L&&decide (0<=rM o (L++[s]))):=by
 induction L with
 | nil =>
  intro o
  show(if aY o s.k<0 then false else oy (aY o s.k) [])=(oy o []&&decide (0<=aY o s.k))
  simp only[oy]
  by_cases h:aY o s.k<0
  ·rw[if_pos h];simp;omega
  ·rw[if_neg h];simp;omega
 | cons a L ih =>
  intro o;rw[List.cons_append,oy,oy]
  by_cases h:aY o a.k<0
  ·rw[if_pos h,if_pos h];rfl
  ·rw[if_neg h,if_neg h,ih];rfl
theorem Bk(S:List Sm)(j n:Nat)(hj:j<=n):rM 0 ((S.drop j).take (n-j))=bF S n-bF S j:=by
 have e:S.take n=S.take j++(S.drop j).take (n-j):=by
  rw[show n=j+(n-j) by omega,List.take_add];simp
 have h2:bF S n=rM (bF S j) ((S.drop j).take (n-j)):=by
  unfold bF rM;rw[e,List.foldl_append]
 have:=zX ((S.drop j).take (n-j)) 0 (bF S j);rw[Int.zero_add]at this;omega
theorem ud(S:List Sm)(j n:Nat)(hj:j<=n)(hn:n<S.length):bC S j (n+1)=(bC S j n&&decide (bF S j<=bF S (n+1))):=by
 have e:(S.drop j).take (n+1-j)=(S.drop j).take (n-j)++[S[n]]:=by
  rw[show n+1-j=(n-j)+1 by omega,List.take_succ_eq_append_getElem (by rw[List.length_drop];omega),List.getElem_drop]
  congr 3;omega
 have hf:=Bk S j (n+1) (by omega);unfold bC;rw[e]at hf ⊢;rw[Fm,hf]
 congr 1
 rw[decide_eq_decide];omega
theorem GO(S:List Sm)(j:Nat):bC S j j=true:=by
 unfold bC;rw[Nat.sub_self,List.take_zero,oy]
theorem GM(S:List Sm)(j n:Nat)(hj:j<=n)(hn:n<=S.length)(h:bC S j n=true):∀m,j<=m->m<=n->bF S j<=bF S m:=by
 induction n with
 | zero =>
  intro m h1 h2;have e:m=j:=by omega
  rw[e];exact Int.le_refl _
 | succ n ih =>
  intro m h1 h2
  by_cases e:j=n+1
  ·have e:m=j:=by omega
   rw[e];exact Int.le_refl _
  ·rw[ud S j n (by omega) (by omega),Bool.and_eq_true,decide_eq_true_eq]at h
   by_cases e2:m=n+1
   ·rw[e2];exact h.2
   ·exact ih (by omega) (by omega) h.1 m h1 (by omega)
def je(S:List Sm)(n:Nat):List Nat:=(List.range n).filter (fun j=>bC S j n)
theorem fX{S:List Sm}{n j:Nat}(h:j∈je S n):j<n:=List.mem_range.1 (List.mem_filter.1 h).1
theorem A8(S:List Sm)(n:Nat)(hn:n<=S.length):(je S n).Pairwise (fun a b=>bF S a<=bF S b):=by
 have h:=(List.pairwise_lt_range (n:=n)).filter (fun j=>bC S j n);refine h.imp_of_mem (fun {a b} ha hb hab=>?_);have hb:=fX hb;exact GM S a n (by omega) hn (List.mem_filter.1 ha).2 b (by omega) (by omega)
theorem At{f:Nat->Int}(c:Int)(l:List Nat)(h:l.Pairwise (fun a b=>f a<=f b)):l=l.filter (fun j=>decide (f j<=c))++l.filter (fun j=>!decide (f j<=c)):=by
 induction l with
 | nil=>rfl
 | cons a l ih =>
  obtain⟨h1,h2⟩:=List.pairwise_cons.1 h;have ih:=ih h2
  by_cases ha:f a<=c
  ·rw[List.filter_cons_of_pos (by simpa using ha),List.filter_cons_of_neg (by simpa using ha),List.cons_append,<-ih]
  ·have e:l.filter (fun j=>decide (f j<=c))=[]:=by
    rw[List.filter_eq_nil_iff];intro b hb;have:=h1 b hb;simp;omega
   rw[List.filter_cons_of_neg (by simpa using ha),List.filter_cons_of_pos (by simpa using ha),e];rw[e]at ih;rw[List.nil_append]at ih ⊢;rw[<-ih]
theorem oV{n:Nat}{p q:Nat->Bool}(h:∀j,j<n->p j=q j):(List.range n).filter p=(List.range n).filter q :=
 List.filter_congr (fun j hj=>h j (List.mem_range.1 hj))
theorem lh(S:List Sm)(s:Sm):bF (S++[s]) (S.length+1)=aY (bF S S.length) s.k:=by
 rw[rO (S++[s]) S.length (by simp),jL S [s] _ (Nat.le_refl _)]
 congr 2
 simp
theorem pr(S:List Sm)(s:Sm):je (S++[s]) (S.length+1)=(je S S.length).filter (fun j=>decide (bF S j<=aY (bF S S.length) s.k))++(if 0<=aY 0 s.k then [S.length] else []):=by
 unfold je;rw[List.range_succ,List.filter_append,List.filter_filter]
 congr 1
 ·refine oV (fun j hj=>?_)
  rw[ud (S++[s]) j S.length (by omega) (by simp),pa S [s] j _ (Nat.le_refl _),jL S [s] j (by omega),lh,Bool.and_comm]
 ·have e:bC (S++[s]) S.length (S.length+1)=decide (0<=aY 0 s.k):=by
   rw[ud (S++[s]) S.length S.length (Nat.le_refl _) (by simp),GO,jL S [s] _ (Nat.le_refl _),lh,Bool.true_and,decide_eq_decide];have:=vw 0 (bF S S.length) s.k;rw[Int.zero_add]at this;omega
  by_cases h:0<=aY 0 s.k
  ·rw[if_pos h,List.filter_cons_of_pos (by rw[e];simpa using h)];rfl
  ·rw[if_neg h,List.filter_cons_of_neg (by rw[e];simpa using h)];rfl
theorem E8{S:List Sm}{n j:Nat}(hn:n<=S.length)(h:j∈je S n):bF S j<=bF S n:=by
 have hl:=fX h;exact GM S j n (by omega) hn (List.mem_filter.1 h).2 n (by omega) (Nat.le_refl _)
structure pJ(F:Nat->List ByteArray)(S:List Sm)(L:List ByteArray)(B:List Nat):Prop where
 l:L=(je S S.length).flatMap F
 b:(B.length:Int)=bF S S.length
 o:∀i,i<B.length->B[i]?=some (((je S S.length).filter (fun j=>decide (bF S j<=(i:Int)))).flatMap F).length
theorem dh{l:List Nat}{F G:Nat->List ByteArray}(h:∀j∈l,F j=G j):l.flatMap F=l.flatMap G:=by
 induction l with
 | nil=>rfl
 | cons a l ih=>rw[List.flatMap_cons,List.flatMap_cons,h a (by simp),ih (fun j hj=>h j (by simp[hj]))]
theorem pE{S:List Sm}{n:Nat}(hn:n<=S.length){c:Int}(hc:bF S n<=c):(je S n).filter (fun j=>decide (bF S j<=c))=je S n :=
 List.filter_eq_self.2 (fun j hj=>by have:=E8 hn hj;simp;omega)
theorem eC(S:List Sm)(s:Sm):(S++[s]).length=S.length+1:=by simp
theorem nh{S:List Sm}{s:Sm}{n:Nat}(hn:n<=S.length)(c:Int):(je S n).filter (fun j=>decide (bF (S++[s]) j<=c))=(je S n).filter (fun j=>decide (bF S j<=c)) :=
 List.filter_congr (fun j hj=>by rw[jL S [s] j (by have:=fX hj;omega)])
theorem pJ.norm{F F':Nat->List ByteArray}{S:List Sm}{L:List ByteArray}{B:List Nat}(h:pJ F S L B)(s:Sm)(hs:∀o,aY o s.k=o)(hF:∀j,j<S.length->F' j=F j):pJ F' (S++[s]) (L++F' S.length) B:=by
 have e:=pr S s;rw[hs,hs,if_pos (Int.le_refl _),pE (Nat.le_refl _) (Int.le_refl _)]at e;have hb:=h.b;refine⟨?_,?_,fun i hi=>?_⟩
 ·rw[eC,e,List.flatMap_append,h.l,dh (fun j hj=>hF j (fX hj))];simp
 ·rw[eC,lh,hs];exact hb
 ·rw[eC,e,List.filter_append,nh (Nat.le_refl _),List.filter_cons_of_neg (by rw[jL S [s] _ (Nat.le_refl _)];simp;omega),List.filter_nil,List.append_nil,dh (fun j hj=>hF j (fX (List.mem_filter.1 hj).1))]
  exact h.o i hi
theorem pJ.push{F F':Nat->List ByteArray}{S:List Sm}{L:List ByteArray}{B:List Nat}(h:pJ F S L B)(s:Sm)(hs:∀o,aY o s.k=o+1)(hF:∀j,j<S.length->F' j=F j)(h0:F' S.length=[]):pJ F' (S++[s]) L (B++[L.length]):=by
 have e:=pr S s;rw[hs,hs,if_pos (by omega),pE (Nat.le_refl _) (by omega)]at e;have hb:=h.b
 have one:∀p:Nat->Bool,([S.length].filter p).flatMap F'=[]:=fun p=>by
  rw[List.flatMap_eq_nil_iff];intro j hj;have:=List.mem_singleton.1 (List.mem_filter.1 hj).1;rw[this];exact h0
 refine⟨?_,?_,fun i hi=>?_⟩
 ·rw[eC,e,List.flatMap_append,h.l,dh (fun j hj=>hF j (fX hj))];simp[h0]
 ·rw[eC,lh,hs];simp;omega
 ·rw[eC,e,List.filter_append,nh (Nat.le_refl _),List.flatMap_append,one,List.append_nil,dh (fun j hj=>hF j (fX (List.mem_filter.1 hj).1))]
  simp only[List.length_append,List.length_cons,List.length_nil]at hi
  by_cases hi2:i<B.length
  ·rw[List.getElem?_append_left hi2];exact h.o i hi2
  ·have e2:i=B.length:=by omega
   rw[e2,List.getElem?_append_right (Nat.le_refl _),Nat.sub_self,pE (Nat.le_refl _) (by omega),<-h.l];rfl
theorem pJ.pop{F F':Nat->List ByteArray}{S:List Sm}{L:List ByteArray}{B:List Nat}{q:Nat}(h:pJ F S L (B++[q]))(s:Sm)(hs:∀o,aY o s.k=o-1)(hF:∀j,j<S.length->F' j=F j):pJ F' (S++[s]) (L.take q) B:=by
 have e:=pr S s;rw[hs,hs,if_neg (by omega),List.append_nil]at e;have hb:=h.b;simp only[List.length_append,List.length_cons,List.length_nil]at hb;have hd:bF S S.length-1=(B.length:Int):=by omega
 rw[hd]at e;have hq:=h.o B.length (by simp);rw[List.getElem?_append_right (Nat.le_refl _),Nat.sub_self]at hq;have hq:q=(((je S S.length).filter (fun j=>decide (bF S j<=(B.length:Int)))).flatMap F).length:=by simpa using hq
 refine⟨?_,?_,fun i hi=>?_⟩
 ·rw[eC,e,dh (G:=F) (fun j hj=>hF j (fX (List.mem_filter.1 hj).1))]
  have hl:=h.l;rw[At (f:=bF S) (B.length:Int) (je S S.length) (A8 S _ (Nat.le_refl _)),List.flatMap_append]at hl;rw[hl,hq,List.take_append_of_le_length (Nat.le_refl _),List.take_length]
 ·rw[eC,lh,hs];omega
 ·rw[eC,e,List.filter_filter]
  have e3:(je S S.length).filter (fun j=>decide (bF (S++[s]) j<=(i:Int))&&decide (bF S j<=(B.length:Int)))=(je S S.length).filter (fun j=>decide (bF S j<=(i:Int))) :=
   List.filter_congr (fun j hj=>by
    rw[jL S [s] j (by have:=fX hj;omega)]
    by_cases hh:bF S j<=(i:Int)
    ·have h2:bF S j<=(B.length:Int):=by omega
     simp[hh,h2]
    ·simp[hh])
  rw[e3,dh (G:=F) (fun j hj=>hF j (fX (List.mem_filter.1 hj).1))];have:=h.o i (by simp;omega);rw[List.getElem?_append_left hi]at this;exact this
def zK(T:List Tk)(S:List Sm)(j:Nat):List ByteArray:=if((au S j).k.toList == [36,118])=true then bV T (au S j).h else []
def Ee(T:List Tk)(S:List Sm)(j:Nat):List ByteArray:=if((au S j).k.toList == [36,99])=true then bV T (au S j).h else []
def DQ(T:List Tk)(S:List Sm)(j:Nat):List ByteArray:=if((au S j).k.toList == [36,102])=true then [tS T ((au S j).h+1)] else []
def Ic(T:List Tk)(S:List Sm)(j:Nat):List ByteArray:=if((cg T (au S j)).toList == [])=true then [] else [cg T (au S j)]
theorem nS(F:Nat->List ByteArray)(l:List Nat)(x:ByteArray):aI (l.flatMap F) x=l.any (fun j=>aI (F j) x):=by
 unfold aI;rw[List.any_flatMap]
theorem gC(x:ByteArray):aI [] x=false:=rfl
theorem t7(l m:List ByteArray)(x:ByteArray):aI (l++m) x=(aI l x||aI m x):=by
 unfold aI;rw[List.any_append]
theorem rd(y x:ByteArray):aI [y] x=(y.toList==x.toList):=by simp[aI]
theorem rW(l:List Nat)(p q:Nat->Bool):(l.filter p).any q=l.any (fun j=>p j&&q j):=by
 rw[List.any_filter]
theorem CY(T:List Tk)(S:List Sm)(x:ByteArray)(n:Nat):jF T S x n=aI ((je S n).flatMap (zK T S)) x:=by
 rw[nS];unfold je;rw[rW];unfold jF io;refine jU (fun j hj=>?_);unfold ny zK;rw[l4.2]
 cases h:((au S j).k.toList == [36,118])
 ·rw[if_neg (by simp),gC];simp
 ·rw[if_pos rfl];simp[Bool.and_comm]
theorem qU(T:List Tk)(S:List Sm)(x:ByteArray)(n:Nat):dM T S x n=aI ((List.range n).flatMap (Ee T S)) x:=by
 rw[nS];unfold dM io;refine jU (fun j hj=>?_);unfold ny Ee;rw[l4.1]
 cases h:((au S j).k.toList == [36,99])
 ·rw[if_neg (by simp),gC];simp
 ·rw[if_pos rfl];simp
theorem BY(T:List Tk)(S:List Sm)(x:ByteArray)(n:Nat):io T S ⟨#[36,118]⟩ x n false=aI ((List.range n).flatMap (zK T S)) x:=by
 rw[nS];unfold io;refine jU (fun j hj=>?_);unfold ny zK;rw[l4.2]
 cases h:((au S j).k.toList == [36,118])
 ·rw[if_neg (by simp),gC];simp
 ·rw[if_pos rfl];simp
theorem JN(l:List Nat)(p:Nat->Bool):(match l.find? p with | some j=>(j:Int) | none=>-1)=-1 ↔ l.any p=false:=by
 cases h:l.find? p with
 | none=>simp only[true_iff];rw[List.any_eq_false];rw[List.find?_eq_none]at h;exact h
 | some j =>
  have h1:=List.find?_some h;have h2:=List.mem_of_find?_eq_some h;have h3:l.any p=true:=List.any_eq_true.2 ⟨j,h2,h1⟩;rw[h3];simp only[Bool.true_eq_false,iff_false];intro h4;have:(0:Int)<=(j:Int):=by omega
  omega
theorem Cy(l:List Nat)(p:Nat->Bool):decide (0<=(match l.find? p with | some j=>(j:Int) | none=>-1))=l.any p:=by
 cases h:l.find? p with
 | none =>
  have:=(JN l p).1 (by rw[h]);rw[this];rfl
 | some j =>
  have h3:l.any p=true:=List.any_eq_true.2 ⟨j,List.mem_of_find?_eq_some h,List.find?_some h⟩;rw[h3];simp
theorem qj(T:List Tk)(S:List Sm)(x:ByteArray)(n:Nat):decide (0<=bn T S x n)=aI ((List.range n).flatMap (Ic T S)) x:=by
 rw[nS];unfold bn;refine(Cy (List.range n) (oD T S x)).trans ?_;refine jU (fun j hj=>?_);unfold oD Ic
 cases h:((cg T (au S j)).toList == [])
 ·rw[if_neg (by simp),rd];simp
 ·rw[if_pos rfl,gC];simp
theorem DK(T:List Tk)(S:List Sm)(x:ByteArray)(n:Nat):decide (0<=fj T S x n)=aI ((je S n).flatMap (DQ T S)) x:=by
 rw[nS];unfold je;rw[rW];unfold fj;refine(Cy (List.range n) (rk T S x n)).trans ?_;refine jU (fun j hj=>?_);unfold rk DQ
 cases h:((au S j).k.toList == [36,102])
 ·rw[if_neg (by simp),gC];simp
 ·rw[if_pos rfl,rd];simp[Bool.and_comm]
theorem A6(T:List Tk)(hT:T.length<=100000)(hall:∀j,j<T.length->a9 T (as T) j=0):jg T (as T) (as T).length/\kJ T (as T) (as T).length:=by
 have p:=fM T;have hl:(as T).length<=T.length:=sD T T.length;generalize as T=S at *;have hw:=fun j (hj:j<S.length)=>xU p j hj (fun q _ h2=>hall q (by have:=(p.s j hj).2;omega))
 refine⟨⟨Nat.le_refl _,by omega,hT,fun j hj=>(hw j hj).1,fun j hj=>(hw j hj).2.1,fun j hj=>?_⟩,fun j hj=>(hw j hj).2.2⟩;have:=(p.s j hj).1.lt;have:=(p.s j hj).2;omega
structure sw(T:List Tk)(S:List Sm)(d:Db):Prop where
 con:d.constants=(List.range S.length).flatMap (Ee T S)
 var:∀x,aI d.variables x=aI ((List.range S.length).flatMap (zK T S)) x
 act:pJ (zK T S) S d.active (d.blocks.map (·.1))
 typ:pJ (DQ T S) S d.typed (d.blocks.map (·.2))
def jK(T:List Tk)(S:List Sm):List ByteArray:=(List.range S.length).flatMap (Ic T S)
inductive KeyK:List UInt8->Int->Prop
 | c:KeyK [36,99] 7
 | v:KeyK [36,118] 8
 | d:KeyK [36,100] 1
 | f:KeyK [36,102] 2
 | e:KeyK [36,101] 3
 | a:KeyK [36,97] 4
 | p:KeyK [36,112] 5
def jD(y:ByteArray):Bool:=!(y.toList == [36,61])
inductive OpE (T:List Tk) (d:Db):Prop
 | none:gi T=T.length->d.kind=0->d.symbols=[]->d.inProof=false->d.labels=jK T (as T)->OpE T d
 | lab:gi T+1=T.length->d.kind=6->d.symbols=[]->d.inProof=false->d.labels=jK T (as T)++[tS T (gi T)]->((tS T (gi T)).toList == [])=false->f8 (tS T (gi T)) ⟨#[36]⟩=false->OpE T d
 | body (key:ByteArray) (head:Nat) (B:List ByteArray):dZ T (gi T)=(key,head)->gi T<head->head<=T.length->KeyK key.toList d.kind->eF T head T.length=B->d.inProof=aI B ⟨#[36,61]⟩->d.symbols=B.takeWhile jD->(d.inProof=true->d.kind=5/\d.symbols≠[]) ->
   d.labels=jK T (as T)++(if(aE key||aH key)=true then [tS T (gi T)] else [])->((aE key||aH key)=true->((tS T (gi T)).toList == [])=false)->OpE T d
theorem pJ.congr{F F':Nat->List ByteArray}{S:List Sm}{L:List ByteArray}{B:List Nat}(h:pJ F S L B)(hF:∀j,j<S.length->F' j=F j):pJ F' S L B :=
 ⟨by rw[dh (G:=F) (fun j hj=>hF j (fX hj))];exact h.l,h.b,fun i hi=>by rw[dh (G:=F) (fun j hj=>hF j (fX (List.mem_filter.1 hj).1))];exact h.o i hi⟩
section
variable {T U:List Tk} {S M:List Sm}
theorem mz(ok:jg T S S.length)(j:Nat)(hj:j<S.length):zK (T++U) (S++M) j=zK T S j:=by
 unfold zK;rw[kq S M j hj]
 split
 ·next h=>rw[tF T U _ (ok.v j hj h)]
 ·rfl
theorem sF(ok:jg T S S.length)(j:Nat)(hj:j<S.length):Ee (T++U) (S++M) j=Ee T S j:=by
 unfold Ee;rw[kq S M j hj]
 split
 ·next h=>rw[tF T U _ (ok.c j hj h)]
 ·rfl
theorem sM(hf:kJ T S S.length)(j:Nat)(hj:j<S.length):DQ (T++U) (S++M) j=DQ T S j:=by
 unfold DQ;rw[kq S M j hj]
 split
 ·next h=>rw[gD T U _ (hf j hj h)]
 ·rfl
theorem CJ(ok:jg T S S.length)(j:Nat)(hj:j<S.length):Ic (T++U) (S++M) j=Ic T S j:=by
 unfold Ic;rw[kq S M j hj,vO _ (ok.a j hj)]
end
theorem mV{F F':Nat->List ByteArray}{n:Nat}(h:∀j,j<n->F' j=F j):(List.range n).flatMap F'=(List.range n).flatMap F:=dh (fun j hj=>h j (List.mem_range.1 hj))
theorem dY{F F':Nat->List ByteArray}{n:Nat}(h:∀j,j<n->F' j=F j):(List.range (n+1)).flatMap F'=(List.range n).flatMap F++F' n:=by
 rw[List.range_succ,List.flatMap_append,mV h];simp
theorem oq{T U:List Tk}{S:List Sm}(ok:jg T S S.length):jK (T++U) S=jK T S:=by
 unfold jK;exact mV (fun j hj=>by have:=CJ (U:=U) (M:=[]) ok j hj;rw[List.append_nil]at this;exact this)
theorem rC{T U:List Tk}{S:List Sm}(s:Sm)(ok:jg T S S.length):jK (T++U) (S++[s])=jK T S++Ic (T++U) (S++[s]) S.length:=by
 unfold jK;rw[eC];exact dY (fun j hj=>CJ ok j hj)
theorem sw.same{T U:List Tk}{S:List Sm}{d d':Db}(h:sw T S d)(ok:jg T S S.length)(hf:kJ T S S.length)(e1:d'.constants=d.constants)(e2:d'.variables=d.variables)(e3:d'.active=d.active)(e4:d'.typed=d.typed)(e5:d'.blocks=d.blocks):sw (T++U) S d':=by
 have hv:∀j,j<S.length->zK (T++U) S j=zK T S j:=fun j hj=>by have:=mz (U:=U) (M:=[]) ok j hj;rw[List.append_nil]at this;exact this
 have hc:∀j,j<S.length->Ee (T++U) S j=Ee T S j:=fun j hj=>by have:=sF (U:=U) (M:=[]) ok j hj;rw[List.append_nil]at this;exact this
 have hg:∀j,j<S.length->DQ (T++U) S j=DQ T S j:=fun j hj=>by have:=sM (U:=U) (M:=[]) hf j hj;rw[List.append_nil]at this;exact this
 exact⟨by rw[e1,mV hc];exact h.con,fun x=>by rw[e2,mV hv];exact h.var x,by rw[e3,e5];exact h.act.congr hv,by rw[e4,e5];exact h.typ.congr hg⟩
theorem mq(S:List Sm)(s:Sm):au (S++[s]) S.length=s:=qT S s
theorem sw.close{T U:List Tk}{S:List Sm}{d d':Db}(h:sw T S d)(ok:jg T S S.length)(hf:kJ T S S.length)(s:Sm)(hs:∀o,aY o s.k=o)
  (e1:d'.constants=d.constants++Ee (T++U) (S++[s]) S.length) (e2:∀x,aI d'.variables x=(aI d.variables x||aI (zK (T++U) (S++[s]) S.length) x)) (e3:d'.active=d.active++zK (T++U) (S++[s]) S.length) (e4:d'.typed=d.typed++DQ (T++U) (S++[s]) S.length) (e5:d'.blocks=d.blocks):sw (T++U) (S++[s]) d' :=
 ⟨by rw[eC,dY (fun j hj=>sF ok j hj),<-h.con];exact e1,fun x=>by rw[eC,dY (fun j hj=>mz ok j hj),t7,<-h.var];exact e2 x,
  by rw[e3,e5];exact h.act.norm s hs (fun j hj=>mz ok j hj),by rw[e4,e5];exact h.typ.norm s hs (fun j hj=>sM hf j hj)⟩
theorem zj(T:List Tk)(t:Tk)(hT:T.length<=100000)(hall:∀j,j<T.length->a9 T (as T) j=0):a9 (T++[t]) (as (T++[t])) T.length =
  if T.length=gi T then cZ T (as T) t.s (as T).length
  else if T.length<(dZ (T++[t]) (gi T)).2 then(if(aE t.s||aH t.s)=true then 0 else 14)
  else kC T (as T) (dZ (T++[t]) (gi T)).1 t.s (as T).length (eF T (dZ (T++[t]) (gi T)).2 T.length):=by
 obtain⟨ok,hf⟩:=A6 T hT hall;obtain⟨M,hM,hz⟩:=vH T [t];have p:=fM T;rw[hM,Ca];generalize as T=S at *
 have hc:h9 (S++M) T.length=S.length:=by
  unfold h9;rw[C4 T.length S M hz];exact Fy _ S S.length (fun q hq=>⟨au S q,CA S q hq,(p.s q hq).2⟩) (fun s hs=>by rw[List.getElem?_eq_none (Nat.le_refl _)]at hs;cases hs)
 unfold a9;rw[hc,yj S M _ (Nat.le_refl _),pX]
 by_cases e:T.length=ji S S.length
 ·rw[if_pos e,if_pos e,wt _ ok]
 ·rw[if_neg e,if_neg e]
  split
  ·rfl
  ·next hh=>rw[zg _ _ _ ok hf,C3 T [t] _ _ (by omega) (Nat.le_refl _)]
theorem zp{T:List Tk}{S:List Sm}{d:Db}(h:sw T S d)(hl:d.labels=jK T S)(x:ByteArray):iC T S x S.length=dn d x:=by
 unfold iC dn;rw[qj,qU,BY,<-h.con,<-h.var,hl,Bool.or_assoc];rfl
theorem Dn{T:List Tk}{S:List Sm}{d:Db}(h:sw T S d)(hl:d.labels=jK T S)(x:ByteArray):(decide (0<=bn T S x S.length)||(dM T S x S.length||jF T S x S.length))=dC d x:=by
 unfold dC;rw[qj,qU,CY,<-h.con,<-h.act.l,hl,Bool.or_assoc];rfl
theorem F3{T:List Tk}{S:List Sm}{d:Db}(h:sw T S d):bF S S.length=(d.blocks.length:Int):=by
 have:=h.act.b;rw[List.length_map]at this;exact this.symm
theorem um{l:List UInt8}{k:ByteArray}(h:k.toList=l)(o:Int):aY o k=if(l == [36,125])=true then(if(l == [36,123])=true then o+1 else o)-1 else(if(l == [36,123])=true then o+1 else o):=by
 unfold aY;rw[h]
theorem kK{l:List UInt8}{k:ByteArray}(h:k.toList=l):aE k=((l == [36,97])||(l == [36,112]))/\aH k=((l == [36,102])||(l == [36,101]))/\bY k=((l == [36,46])||(l == [36,123])||(l == [36,125])):=by
 unfold aE aH bY;rw[h];exact⟨rfl,rfl,rfl⟩
theorem Ba{l:List UInt8}{k:ByteArray}(h:k.toList=l):f8 k ⟨#[36]⟩=f8 ⟨l.toArray⟩ ⟨#[36]⟩:=by
 rw[mW (x:=k) (l:=l) (by rw[h];simp)]
theorem KeyK.dep{k:ByteArray}{n:Int}(h:KeyK k.toList n):(∀o,aY o k=o)/\f8 k ⟨#[36]⟩=true/\bY k=false:=by
 generalize hl:k.toList=l at h;have h1:=fun o=>um hl o
 have h2:=Ba hl;have h3:=(kK hl).2.2
 cases h <;> exact⟨fun o=>h1 o,h2.trans (by decide +kernel),h3⟩
section
variable {T:List Tk} {t:Tk} {d:Db}
theorem zE(hf:gi T=T.length)(hd:f8 t.s ⟨#[36]⟩=true):dZ (T++[t]) (gi T)=(t.s,T.length+1):=by
 unfold dZ;rw[hf,pX,hd];simp
theorem ua{key:ByteArray}{head:Nat}{n:Int}(hk:dZ T (gi T)=(key,head))(hlt:gi T<head)(hh:head<=T.length)(hK:KeyK key.toList n):dZ (T++[t]) (gi T)=(key,head):=by
 rw[<-hk]
 by_cases h:gi T+1<T.length
 ·exact xM T [t] _ h
 ·have e:dZ T (gi T)=(tS T (gi T),gi T+1):=by
   unfold dZ;rw[if_pos (by simp;right;omega)]
  rw[hk]at e;have e1:key=tS T (gi T):=congrArg Prod.fst e;have hs:=hK.dep.2.1;rw[e1]at hs;unfold dZ;rw[gD T [t] _ (by omega),hs];simp
theorem mZ(T:List Tk)(h:Nat):eF T h T.length=(T.drop h).map (·.s):=by
 unfold eF;rw[List.take_of_length_le (by rw[List.length_drop];exact Nat.le_refl _)]
theorem Gl(t:Tk)(h:Nat)(hh:h<=T.length):eF (T++[t]) h (T++[t]).length=eF T h T.length++[t.s]:=by
 rw[mZ,mZ,List.drop_append_of_le_length hh];simp
theorem xY(L:List Tk)(t:Tk)(hL:∀u∈L,(u.s.toList == [36,46])=false)(ht:(t.s.toList == [36,46])=true):lk (L++[t])=(L.map (·.s)).takeWhile jD:=by
 induction L with
 | nil=>rw[List.nil_append,lk,if_pos (pR ht)];rfl
 | cons a L ih =>
  have h1:=hL a (by simp);rw[List.cons_append,lk,List.map_cons]
  cases h2:(a.s.toList == [36,61])
  ·rw[if_neg (by unfold lG;rw[h1,h2];simp),List.takeWhile_cons_of_pos (by unfold jD;rw[h2];rfl),ih (fun u hu=>hL u (by simp[hu]))]
  ·rw[if_pos (by unfold lG;rw[h2];rfl),List.takeWhile_cons_of_neg (by unfold jD;rw[h2];simp)]
theorem Eq(T:List Tk)(h:Nat)(hh:gi T<=h):∀u∈T.drop h,bY u.s=false:=by
 intro u hu;obtain⟨q,hq,e⟩:=List.getElem_of_mem hu;rw[List.length_drop]at hq;have:=(fM T).n (h+q) (by unfold gi at hh;omega) (by omega);rw[List.getElem_drop]at e;unfold tS at this;rw[List.getD_eq_getElem?_getD,List.getElem?_eq_getElem (by omega)]at this;rw[<-e];exact this
theorem FJ(B:List ByteArray)(h:aI B ⟨#[36,61]⟩=false):∀y∈B,jD y=true:=by
 intro y hy;unfold aI at h;rw[List.any_eq_false]at h;have:=h y hy;have e:(⟨#[36,61]⟩:ByteArray).toList=[36,61]:=by decide +kernel
 rw[e]at this;unfold jD;simpa using this
theorem Fb(B:List ByteArray)(h:∀y∈B,jD y=true):B.takeWhile jD=B:=by
 induction B with
 | nil=>rfl
 | cons a B ih=>rw[List.takeWhile_cons_of_pos (h a (by simp)),ih (fun y hy=>h y (by simp[hy]))]
theorem sA(B:List ByteArray)(h:aI B ⟨#[36,61]⟩=false):B.takeWhile jD=B:=Fb B (FJ B h)
theorem G6(B:List ByteArray)(y:ByteArray)(h:aI B ⟨#[36,61]⟩=true):(B++[y]).takeWhile jD=B.takeWhile jD:=by
 have e:(⟨#[36,61]⟩:ByteArray).toList=[36,61]:=by decide +kernel
 induction B with
 | nil=>cases h
 | cons a B ih =>
  rw[List.cons_append]
  cases h2:(a.toList == [36,61])
  ·have h3:aI B ⟨#[36,61]⟩=true:=by
    unfold aI at h ⊢;rw[List.any_cons,e,h2,Bool.false_or]at h;rw[e];exact h
   rw[List.takeWhile_cons_of_pos (by unfold jD;rw[h2];rfl),List.takeWhile_cons_of_pos (by unfold jD;rw[h2];rfl),ih h3]
  ·rw[List.takeWhile_cons_of_neg (by unfold jD;rw[h2];simp),List.takeWhile_cons_of_neg (by unfold jD;rw[h2];simp)]
end
end Go.Proofs.YtpddjjabfbfifaaGreat

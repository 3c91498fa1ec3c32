import Derived.Test.YtpddjjabfbfifaaGreatG32
namespace Go.Proofs.YtpddjjabfbfifaaGreat
open Go.RowKit
set_option maxHeartbeats 40000000
def ka(nm d:ByteArray)(i:pH):Tk:=⟨i.text,i.rule,nm,aL d i.pos,aW d i.pos⟩
def JH(nm d:ByteArray):Nat->Nat->List Tk
  | 0,_=>[]
  | f+1,k=>ka nm d (bi d k).1 :: (if aG (bi d k).1=true then JH nm d f (bi d k).2 else [])
def lg(nm d:ByteArray)(k:Nat):List Tk:=JH nm d (d.size-k+1) k
theorem Fq(nm d:ByteArray)(f k:Nat)(hk:k<=d.size)(hf:d.size-k+1<=f):JH nm d f k=lg nm d k:=by
  unfold lg
  suffices h:∀f g k,k<=d.size->d.size-k+1<=f->d.size-k+1<=g->JH nm d f k=JH nm d g k from h _ _ _ hk hf (Nat.le_refl _)
  clear hf hk f k;intro f
  induction f with
  | zero=>intro g k _ h;omega
  | succ f ih =>
    intro g k hk hf hg
    cases g with
    | zero=>omega
    | succ g =>
      rw[JH,JH]
      split
      · next h =>
        have hl:=fq d k hk;have hl2:=hl.2.2 h;rw[ih g _ hl.2.1 (by omega) (by omega)]
      · rfl
theorem j6(nm d:ByteArray)(k:Nat)(hk:k<=d.size)(h:aG (bi d k).1=true):lg nm d k=ka nm d (bi d k).1 :: lg nm d (bi d k).2:=by
  have hl:=fq d k hk;have hl2:=hl.2.2 h
  conv=>lhs;unfold lg
  rw[JH,if_pos h,Fq nm d _ _ hl.2.1 (by omega)]
theorem i7(nm d:ByteArray)(k:Nat)(h:aG (bi d k).1=false):lg nm d k=[ka nm d (bi d k).1]:=by
  unfold lg;rw[JH,if_neg (by simp[h])]
theorem Bg(d:ByteArray)(k:Nat)(h:k<d.size)(hb:cD (aF d k)=true):bi d k=bi d (k+1):=by
  unfold bi;rw[Cp d k h hb]
theorem rR(nm d:ByteArray)(k:Nat)(h:k<d.size)(hb:cD (aF d k)=true):lg nm d k=lg nm d (k+1):=by
  have e:=Bg d k h hb
  cases hw:aG (bi d k).1
  · rw[i7 nm d k hw,i7 nm d (k+1) (by rw[<-e];exact hw),e]
  · rw[j6 nm d k (by omega) hw,j6 nm d (k+1) (by omega) (by rw[<-e];exact hw),e]
theorem zc(d:ByteArray)(n:Nat):∀a,(∀j,a<=j->j<a+n->j<d.size/\cD (aF d j)=false/\eL (aF d j)=true)->ci d a=ci d (a+n):=by
  induction n with
  | zero=>intro a _;rfl
  | succ n ih =>
    intro a h;have h0:=h a (by omega) (by omega);rw[CP d a h0.1 h0.2.1 h0.2.2,ih (a+1) (fun j h1 h2=>h j (by omega) (by omega))]
    congr 1;omega
theorem Ae{n:Int}(h:oC n=false)(hb:cD n=false):eL n=true:=by
  unfold oC at h;rw[hb]at h;simpa using h
theorem yZ(d:ByteArray)(a z:Nat)(haz:a<z)(hz:z<=d.size)(hj:∀j,a<=j->j<z->cD (aF d j)=false/\eL (aF d j)=true)(he:z<d.size->cD (aF d z)=true):bi d a=(⟨d.extract a z,0,false,a⟩,z):=by
  have hw:=zc d (z-a) a (fun j h1 h2=>⟨by omega,hj j h1 (by omega)⟩);rw[show a+(z-a)=z by omega]at hw;refine wl d a a z (qv d a (fun h=>?_)).symm hw.symm (fun h=>?_) haz
  · rw[(hj a (Nat.le_refl _) haz).1]at h;simp at h
  · rw[he h.1]at h;simp at h
theorem md(d:ByteArray)(i:Nat):∀j,cI d i<=j->j<i->cD (aF d j)=false:=by
  induction i with
  | zero=>intro j _ h;omega
  | succ i ih =>
    intro j h1 h2;rw[cI]at h1
    split at h1
    · omega
    · next hb =>
      by_cases e:j=i
      · rw[e];simpa using hb
      · exact ih j h1 (by omega)
theorem uQ(nm d:ByteArray)(i:Nat)(hi:i<=d.size)(hb:∀j,j<i->oC (aF d j)=false):lg nm d 0=h9 nm d i++lg nm d (cI d i):=by
  induction i with
  | zero=>rfl
  | succ i ih =>
    have ih:=ih (by omega) (fun j hj=>hb j (by omega));rw[h9,cI]
    cases hbl:cD (aF d i)
    · rw[if_neg (by simp),if_neg (by simp)];exact ih
    · rw[if_pos rfl,if_pos rfl]
      have hl:=mm d i;unfold gW
      split
      · next e =>
        rw[ih,e,rR nm d i (by omega) hbl]
      · next e =>
        have hr:=yZ d (cI d i) i (by omega) (by omega) (fun j h1 h2=>⟨md d i j h1 h2,Ae (hb j (by omega)) (md d i j h1 h2)⟩) (fun _=>hbl);rw[ih,j6 nm d (cI d i) (by omega) (by rw[hr];rfl),hr,<-rR nm d i (by omega) hbl];simp[ka,kG]
theorem BA(nm d:ByteArray):fO nm d=lg nm d 0:=by
  unfold fO
  cases hf:iD d with
  | some i =>
    unfold iD at hf;rw[List.find?_range_eq_some]at hf;obtain⟨h1,h2,h3⟩:=hf;have h2:=List.mem_range.1 h2;have hb:∀j,j<i->oC (aF d j)=false:=fun j hj=>by simpa using h3 j hj
    have hl:=mm d i;have hin:∀j,cI d i<=j->j<cI d i+(i-cI d i)->j<d.size/\cD (aF d j)=false/\eL (aF d j)=true:=fun j h1 h2=>⟨by omega,md d i j h1 (by omega),Ae (hb j (by omega)) (md d i j h1 (by omega))⟩
    have hp:eL (aF d i)=false/\cD (aF d i)=false:=by
      unfold oC at h1;simpa using h1
    have hw:=zc d (i-cI d i) (cI d i) hin;rw[show cI d i+(i-cI d i)=i by omega]at hw
    have hsk:cI d i=skip d (cI d i):=(qv d _ (fun h=>by
      by_cases e:cI d i=i
      · rw[e,hp.2]at h;simp at h
      · rw[(hin (cI d i) (Nat.le_refl _) (by omega)).2.1]at h;simp at h)).symm
    have hr:=yC d (cI d i) (cI d i) i hsk hw.symm h2 hp.2 hp.1;simp only;rw[uQ nm d i (by omega) hb,i7 nm d (cI d i) (by rw[hr];rfl),hr];simp[ka,kG]
  | none =>
    have hb:∀j,j<d.size->oC (aF d j)=false:=fun j hj=>by
      unfold iD at hf;rw[List.find?_eq_none]at hf;simpa using hf j (List.mem_range.2 hj)
    have hl:=mm d d.size;have hend:bi d d.size=(⟨⟨#[]⟩,0,true,d.size⟩,d.size):=zV d d.size d.size d.size (qv d _ (fun h=>by omega)).symm rfl (fun h=>by omega) (Nat.le_refl _);simp only;rw[uQ nm d d.size (Nat.le_refl _) hb];unfold gW
    split
    · next e =>
      rw[e,i7 nm d d.size (by rw[hend];rfl),hend];simp[ka,kG]
    · next e =>
      have hr:=yZ d (cI d d.size) d.size (by omega) (Nat.le_refl _) (fun j h1 h2=>⟨md d _ j h1 h2,Ae (hb j h2) (md d _ j h1 h2)⟩) (fun h=>by omega);rw[j6 nm d (cI d d.size) hl (by rw[hr];rfl),hr,i7 nm d d.size (by rw[hend];rfl),hend];simp[ka,kG]
def Jo(nm d:ByteArray):Nat->Nat->List Tk
  | 0,_=>[]
  | f+1,k=>ka nm d (av d k).1 :: (if aG (av d k).1=true then Jo nm d f (av d k).2 else [])
def kz(nm d:ByteArray)(k:Nat):List Tk:=Jo nm d (d.size-k+1) k
theorem FQ(nm d:ByteArray)(f k:Nat)(hk:k<=d.size)(hf:d.size-k+1<=f):Jo nm d f k=kz nm d k:=by
  unfold kz
  suffices h:∀f g k,k<=d.size->d.size-k+1<=f->d.size-k+1<=g->Jo nm d f k=Jo nm d g k from h _ _ _ hk hf (Nat.le_refl _)
  clear hf hk f k;intro f
  induction f with
  | zero=>intro g k _ h;omega
  | succ f ih =>
    intro g k hk hf hg
    cases g with
    | zero=>omega
    | succ g =>
      rw[Jo,Jo]
      split
      · next h =>
        have hl:=eO d k hk;have hl2:=hl.2.2 h;rw[ih g _ hl.2.1 (by omega) (by omega)]
      · rfl
theorem iU(nm d:ByteArray)(k:Nat)(hk:k<=d.size)(h:aG (av d k).1=true):kz nm d k=ka nm d (av d k).1 :: kz nm d (av d k).2:=by
  have hl:=eO d k hk;have hl2:=hl.2.2 h
  conv=>lhs;unfold kz
  rw[Jo,if_pos h,FQ nm d _ _ hl.2.1 (by omega)]
theorem iY(nm d:ByteArray)(k:Nat)(h:aG (av d k).1=false):kz nm d k=[ka nm d (av d k).1]:=by
  unfold kz;rw[Jo,if_neg (by simp[h])]
theorem Bo(nm d:ByteArray)(k j:Nat)(hk:k<=d.size)(hj:j<=d.size)(h:av d k=av d j):kz nm d k=kz nm d j:=by
  cases hw:aG (av d k).1
  · rw[iY nm d k hw,iY nm d j (by rw[<-h];exact hw),h]
  · rw[iU nm d k hk hw,iU nm d j hj (by rw[<-h];exact hw),h]
theorem Cn(s:ByteArray)(c:UInt8):fT s ⟨#[36,c]⟩=(List.range s.size).any (fun i=>decide (1<=i)&&(aF s (i-1)==36)&&(aF s i==(c.toNat:Int))):=by
  have hsz:(⟨#[36,c]⟩:ByteArray).size=2:=rfl
  have hat:∀i,i+2<=s.size->(pt s ⟨#[36,c]⟩ i=((aF s i==36)&&(aF s (i+1)==(c.toNat:Int)))):=fun i hi=>by
    have e:(s.extract i (i+2)).toList=[s[i]'(by omega),s[i+1]'(by omega)]:=by
      apply List.ext_getElem
      · rw[ByteArray.toList_eq];simp;omega
      · intro n h1 h2
        simp only[List.length_cons,List.length_nil]at h2;have hn:n=0∨n=1:=by omega
        simp only[ByteArray.toList_eq,ByteArray.data_extract,Array.getElem_toList,Array.getElem_extract]
        rcases hn with rfl | rfl <;> rfl
    unfold pt;rw[hsz,e,bI s i (by omega),bI s (i+1) (by omega)];have e2:(⟨#[36,c]⟩:ByteArray).toList=[36,c]:=by rw[ByteArray.toList_eq]
    rw[e2]
    have b1:∀x:UInt8,((x.toNat:Int)==36)=(x==36):=fun x=>by
      rw[Bool.eq_iff_iff];simp only[beq_iff_eq]
      constructor
      · intro h;exact UInt8.toNat_inj.1 (by have:x.toNat=36:=by omega
                                             rw[this];rfl)
      · rintro rfl;rfl
    have b2:∀x:UInt8,((x.toNat:Int)==(c.toNat:Int))=(x==c):=fun x=>by
      rw[Bool.eq_iff_iff];simp only[beq_iff_eq]
      constructor
      · intro h;exact UInt8.toNat_inj.1 (by omega)
      · rintro rfl;rfl
    rw[b1,b2];simp[Bool.beq_eq_decide_eq,Bool.decide_and]
  unfold fT;rw[hsz,Bool.eq_iff_iff,List.any_eq_true,List.any_eq_true]
  constructor
  · rintro ⟨i,hi,h⟩
    have hi:=List.mem_range.1 hi;rw[Bool.and_eq_true,decide_eq_true_eq]at h;rw[hat i h.1]at h;exact⟨i+1,List.mem_range.2 (by omega),by rw[Nat.add_sub_cancel,Bool.and_eq_true,Bool.and_eq_true,decide_eq_true_eq];rw[Bool.and_eq_true]at h;exact⟨⟨by omega,h.2.1⟩,h.2.2⟩⟩
  · rintro ⟨i,hi,h⟩
    have hi:=List.mem_range.1 hi;rw[Bool.and_eq_true,Bool.and_eq_true,decide_eq_true_eq]at h;refine⟨i-1,List.mem_range.2 (by omega),?_⟩;rw[Bool.and_eq_true,decide_eq_true_eq,hat (i-1) (by omega),Bool.and_eq_true,show i-1+1=i by omega];exact⟨by omega,h.1.2,h.2⟩
theorem rP(s:ByteArray):jl s=(fT s ⟨#[36,40]⟩||fT s ⟨#[36,41]⟩):=by
  rw[Cn,Cn,Bool.eq_iff_iff,Bool.or_eq_true];unfold jl;simp only[List.any_eq_true,Bool.and_eq_true,Bool.or_eq_true]
  constructor
  · rintro ⟨i,hi,h1,h2 | h2⟩
    · exact Or.inl ⟨i,hi,h1,h2⟩
    · exact Or.inr ⟨i,hi,h1,h2⟩
  · rintro (⟨i,hi,h1,h2⟩ | ⟨i,hi,h1,h2⟩)
    · exact⟨i,hi,h1,Or.inl h2⟩
    · exact⟨i,hi,h1,Or.inr h2⟩
theorem gO(s:ByteArray):fT s ⟨#[36]⟩=dw s:=by
  have hsz:(⟨#[36]⟩:ByteArray).size=1:=rfl
  have hat:∀i,i+1<=s.size->(pt s ⟨#[36]⟩ i=(aF s i==36)):=fun i hi=>by
    have e:(s.extract i (i+1)).toList=[s[i]'(by omega)]:=by
      apply List.ext_getElem
      · rw[ByteArray.toList_eq];simp;omega
      · intro n h1 h2
        simp only[List.length_cons,List.length_nil]at h2;have hn:n=0:=by omega
        simp only[ByteArray.toList_eq,ByteArray.data_extract,Array.getElem_toList,Array.getElem_extract];subst hn;rfl
    unfold pt;rw[hsz,e,bI s i (by omega)];have e2:(⟨#[36]⟩:ByteArray).toList=[36]:=by rw[ByteArray.toList_eq]
    rw[e2,Bool.eq_iff_iff];simp only[beq_iff_eq,List.cons.injEq,and_true]
    constructor
    · intro h;rw[h];rfl
    · intro h;exact UInt8.toNat_inj.1 (by have:(s[i]'(by omega)).toNat=36:=by omega
                                           rw[this];rfl)
  unfold fT dw;rw[hsz,Bool.eq_iff_iff,List.any_eq_true,List.any_eq_true]
  constructor
  · rintro ⟨i,hi,h⟩
    rw[Bool.and_eq_true,decide_eq_true_eq]at h;rw[hat i h.1]at h;exact⟨i,List.mem_range.2 (by omega),h.2⟩
  · rintro ⟨i,hi,h⟩
    have hi:=List.mem_range.1 hi;exact⟨i,List.mem_range.2 (by omega),by rw[Bool.and_eq_true,decide_eq_true_eq,hat i (by omega)];exact⟨by omega,h⟩⟩
theorem qm(d:ByteArray)(k:Nat)(hk:k<=d.size):(aG (bi d k).1=true->((bi d k).1.text.toList == [])=false/\(bi d k).1.rule=0)/\(aG (bi d k).1=false->(bi d k).1.text=⟨#[]⟩/\((bi d k).1.fin=true->(bi d k).1.rule=0)):=by
  have a:=wK d k hk;have b:=o8 d (skip d k) a.2;unfold bi;simp only
  split
  · exact⟨fun h=>by simp[aG]at h,fun _=>⟨rfl,fun h=>by cases h⟩⟩
  · split
    · exact⟨fun h=>by simp[aG]at h,fun _=>⟨rfl,fun _=>rfl⟩⟩
    · next h1 h2 =>
      refine⟨fun _=>⟨?_,rfl⟩,fun h=>by simp[aG]at h⟩
      have hl:(d.extract (skip d k) (ci d (skip d k))).size=ci d (skip d k)-skip d k:=by
        rw[ByteArray.size_extract];omega
      cases e:((d.extract (skip d k) (ci d (skip d k))).toList == [])
      · rfl
      · have e:(d.extract (skip d k) (ci d (skip d k))).toList=[]:=by simpa using e
        have:=congrArg List.length e;rw[ByteArray.toList_eq]at this;have hs:ci d (skip d k)-skip d k=0∨d.size-skip d k=0:=by simpa using this
        omega
theorem Gz(nm d:ByteArray)(f:Nat):∀k,k<=d.size->d.size-k+1<=f ->
    bJ true (lg nm d k)=(if aG (aQ d k).1=true then bJ false (lg nm d (aQ d k).2) else [ka nm d (aQ d k).1]):=by
  induction f with
  | zero=>intro k _ h;omega
  | succ f ih =>
    intro k hk hf;have hl:=fq d k hk;obtain⟨t1,t2⟩:=qm d k hk
    cases hw:aG (bi d k).1
    · obtain⟨e1,e2⟩:=t2 hw
      rw[i7 nm d k hw]
      cases hfn:(bi d k).1.fin
      · have hr:((bi d k).1.rule==0)=false:=by
          unfold aG at hw;rw[hfn]at hw;simpa using hw
        rw[rI d k hw hfn,hw,if_neg (by simp),bJ,if_pos (by exact hr)];rw[bJ]
      · rw[qw d k hw hfn,if_neg (by simp[aG]),bJ,if_neg (by simp[ka,e2 hfn]),if_neg (by simp[ka,Aa,e1]),if_pos (by simp[ka,Aa,e1]),bJ]
        rfl
    · obtain⟨e1,e2⟩:=t1 hw
      have hl2:=hl.2.2 hw;rw[j6 nm d k hk hw]
      cases hc:((bi d k).1.text.toList == [36,41])
      · cases hb:jl (bi d k).1.text
        · rw[tp d k hk hw hc hb,bJ,if_neg (by simp[ka,e2]),if_neg (by simp only[ka,Aa];rw[hc];simp),if_neg (by simp only[ka,Aa];rw[e1];simp),if_neg (by rw[<-rP];simp only[ka];rw[hb];simp)]
          exact ih _ hl.2.1 (by omega)
        · rw[pR d k hw hc hb,if_neg (by simp[aG]),bJ,if_neg (by simp[ka,e2]),if_neg (by simp only[ka,Aa];rw[hc];simp),if_neg (by simp only[ka,Aa];rw[e1];simp),if_pos (by rw[<-rP];exact hb)]
          rfl
      · rw[oK d k hw hc,if_pos hw,bJ,if_neg (by simp[ka,e2]),if_pos (by simp only[ka,Aa];exact hc)]
theorem EJ(nm d:ByteArray)(f:Nat):∀k,k<=d.size->d.size-k+1<=f->bJ false (lg nm d k)=kz nm d k:=by
  induction f with
  | zero=>intro k _ h;omega
  | succ f ih =>
    intro k hk hf;have hl:=fq d k hk;obtain⟨t1,t2⟩:=qm d k hk
    cases hw:aG (bi d k).1
    · obtain⟨e1,e2⟩:=t2 hw
      have hn:=oZ d k (Or.inl hw);rw[i7 nm d k hw,iY nm d k (by rw[hn];exact hw),hn,bJ,if_neg (by simp[ka,Aa,e1]),bJ]
    · have hl2:=hl.2.2 hw
      rw[j6 nm d k hk hw]
      cases hc:((bi d k).1.text.toList == [36,40])
      · have hn:=oZ d k (Or.inr hc)
        rw[iU nm d k hk (by rw[hn];exact hw),hn,bJ,if_neg (by simp only[ka,Aa];rw[hc];simp),ih _ hl.2.1 (by omega)]
      · have hcl:=gZ d (bi d k).2 hl.2.1
        rw[bJ,if_pos (by simp only[ka,Aa];exact hc),Gz nm d _ _ hl.2.1 (Nat.le_refl _)]
        cases hcw:aG (aQ d (bi d k).2).1
        · have hn:=rE d k hw hc hcw
          rw[if_neg (by simp),iY nm d k (by rw[hn];exact hcw),hn]
        · have hn:=Co d k hk hw hc hcw
          rw[if_pos rfl,ih _ hcl.2 (by omega)];exact(Bo nm d k _ hk hcl.2 hn).symm
theorem v8(fs:Fs)(k:Nat):oI fs k=kz (aC fs k) (aj fs k) 0:=by
  unfold oI;rw[BA];exact EJ _ _ _ 0 (Nat.zero_le _) (Nat.le_refl _)
theorem gK(T U:List Tk)(i:Nat)(h:i<T.length):tS (T++U) i=tS T i:=by
 unfold tS;rw[List.getD_eq_getElem?_getD,List.getD_eq_getElem?_getD,List.getElem?_append_left h]
theorem qh(T:List Tk)(t:Tk):tS (T++[t]) T.length=t.s:=by
 unfold tS;rw[List.getD_eq_getElem?_getD,List.getElem?_append_right (Nat.le_refl _),Nat.sub_self];rfl
theorem xM(T U:List Tk)(b:Nat)(h:b+1<T.length):dY (T++U) b=dY T b:=by
 unfold dY;rw[gK T U b (by omega),gK T U (b+1) h,List.length_append];have e1:decide (T.length+U.length<=b+1)=false:=by simp;omega
 have e2:decide (T.length<=b+1)=false:=by simp;omega
 rw[e1,e2]
theorem Dx(T U:List Tk)(b i:Nat)(hb:b<=i)(hi:i<T.length)(he:bY (tS T i)=true):dY (T++U) b=dY T b:=by
 by_cases e:b=i
 ·subst e
  unfold dY;rw[gK T U b hi,(kl he).1];simp
 ·exact xM T U b (by omega)
theorem tj(T U:List Tk)(i:Nat)(hi:i<=T.length):dW (T++U) i=dW T i:=by
 induction i with
 | zero=>rfl
 | succ i ih =>
  rw[dW,dW,ih (by omega),gK T U i (by omega)]
  cases he:bY (tS T i)
  ·rfl
  ·rw[Dx T U _ i (Iv T i) (by omega) he]
theorem Cg(T:List Tk)(i k:Nat):∃M,(dW T (i+k)).1=(dW T i).1++M/\∀m∈M,i<m.z:=by
 induction k with
 | zero=>exact⟨[],by simp,by simp⟩
 | succ k ih =>
  obtain⟨M,h1,h2⟩:=ih;rw[show i+(k+1)=(i+k)+1 by omega,dW]
  split
  ·refine⟨M++[⟨(dW T (i+k)).2,i+k+1,(dY T (dW T (i+k)).2).2,(dY T (dW T (i+k)).2).1⟩],by simp only[h1,List.append_assoc],fun m hm=>?_⟩
   rcases List.mem_append.1 hm with h | h
   ·exact h2 m h
   ·rw[List.mem_singleton.1 h];show i<i+k+1;omega
  ·exact⟨M,h1,h2⟩
theorem vP(T U:List Tk):∃M,as (T++U)=as T++M/\∀m∈M,T.length<m.z:=by
 obtain⟨M,h1,h2⟩:=Cg (T++U) T.length U.length;refine⟨M,?_,h2⟩;unfold as;rw[List.length_append,h1,tj T U _ (Nat.le_refl _)]
def gi(T:List Tk):Nat:=(dW T T.length).2
theorem Bt(T:List Tk):gi T=ji (as T) (as T).length:=(fK T).fr
theorem pi(T:List Tk)(t:Tk):as (T++[t])=(if bY t.s=true then as T++[⟨gi T,T.length+1,(dY (T++[t]) (gi T)).2,(dY (T++[t]) (gi T)).1⟩] else as T)/\gi (T++[t])=(if bY t.s=true then T.length+1 else gi T):=by
 unfold as gi;rw[List.length_append,List.length_cons,List.length_nil,dW,tj T [t] T.length (Nat.le_refl _),qh]
 split <;> exact⟨rfl,rfl⟩
theorem kt(S M:List Sm)(j:Nat)(h:j<S.length):au (S++M) j=au S j:=by
 unfold au;rw[List.getD_eq_getElem?_getD,List.getD_eq_getElem?_getD,List.getElem?_append_left h]
theorem ym(S M:List Sm)(n:Nat)(h:n<=S.length):ji (S++M) n=ji S n:=by
 unfold ji
 split
 ·rw[kt S M (n-1) (by omega)]
 ·rfl
theorem CK(i:Nat)(S M:List Sm)(h:∀m∈M,i<m.z):lN i (S++M)=lN i S:=by
 induction S with
 | nil =>
  cases M with
  | nil=>rfl
  | cons m M =>
   have:=h m (by simp)
   show(if m.z<=i then lN i M+1 else 0)=0
   rw[if_neg (by omega)]
 | cons s S ih=>rw[List.cons_append,lN,lN,ih]
theorem oY(S M:List Sm)(j n:Nat)(h:n<=S.length):bC (S++M) j n=bC S j n:=by
 unfold bC
 by_cases hj:j<=S.length
 ·rw[List.drop_append_of_le_length hj,List.take_append_of_le_length (by rw[List.length_drop];omega)]
 ·rw[show n-j=0 by omega];simp
theorem jY(S M:List Sm)(n:Nat)(h:n<=S.length):bF (S++M) n=bF S n:=by
 unfold bF;rw[List.take_append_of_le_length h]
theorem vE(L M:List Tk)(h:∃u∈L,lL u.s=true):li (L++M)=li L:=by
 induction L with
 | nil=>obtain⟨u,hu,-⟩:=h;cases hu
 | cons a L ih =>
  rw[List.cons_append,li,li]
  split
  ·rfl
  ·next hs =>
   rw[ih];obtain⟨u,hu,h2⟩:=h
   rcases List.mem_cons.1 hu with rfl | hu
   ·exact absurd h2 hs
   ·exact⟨u,hu,h2⟩
theorem Dm{T:List Tk}{h:Nat}(hs:eD T h):∃u∈T.drop h,lL u.s=true:=by
 obtain⟨e,h1,h2,h3⟩:=hs;refine⟨T[e],?_,?_⟩
 ·rw[List.mem_iff_getElem?]
  exact⟨e-h,by rw[List.getElem?_drop,show h+(e-h)=e by omega,List.getElem?_eq_getElem h2]⟩
 ·unfold tS at h3
  rw[List.getD_eq_getElem?_getD,List.getElem?_eq_getElem h2]at h3;exact h3
theorem tn(T U:List Tk)(h:Nat)(hs:eD T h):bV (T++U) h=bV T h:=by
 have hl:h<=T.length:=by obtain⟨e,h1,h2,-⟩:=hs;omega
 unfold bV;rw[List.drop_append_of_le_length hl,vE _ _ (Dm hs)]
theorem jN{n:Nat}{p q:Nat->Bool}(h:∀j,j<n->p j=q j):(List.range n).any p=(List.range n).any q:=by
 rw[Bool.eq_iff_iff,List.any_eq_true,List.any_eq_true]
 constructor
 ·rintro ⟨j,hj,h1⟩;exact⟨j,hj,by rw[<-h j (List.mem_range.1 hj)];exact h1⟩
 ·rintro ⟨j,hj,h1⟩;exact⟨j,hj,by rw[h j (List.mem_range.1 hj)];exact h1⟩
theorem uw{l:List Nat}{p q:Nat->Bool}(h:∀j∈l,p j=q j):l.find? p=l.find? q:=by
 induction l with
 | nil=>rfl
 | cons a l ih =>
  rw[List.find?_cons,List.find?_cons,h a (by simp),ih (fun j hj=>h j (by simp[hj]))]
section
variable {T U:List Tk} {S M:List Sm} {n:Nat}
theorem tP(key x:ByteArray)(act:Bool)(hn:n<=S.length)(hk:∀j,j<n->((au S j).k.toList==key.toList)=true->eD T (au S j).h):im (T++U) (S++M) key x n act=im T S key x n act:=by
 unfold im;refine jN (fun j hj=>?_);unfold nS;rw[kt S M j (by omega),oY S M j n hn]
 cases h:((au S j).k.toList==key.toList)
 ·rfl
 ·rw[tn T U _ (hk j hj h)]
theorem rC(x:ByteArray)(ok:jh T S n):dP (T++U) (S++M) x n=dP T S x n:=tP _ x _ ok.m (by rw[mg.1];exact ok.c)
theorem Cq(x:ByteArray)(ok:jh T S n):jF (T++U) (S++M) x n=jF T S x n:=tP _ x _ ok.m (by rw[mg.2];exact ok.v)
theorem vN(s:Sm)(h:s.a<T.length):cd (T++U) s=cd T s:=by
 unfold cd;rw[gK T U s.a h]
theorem qt(x:ByteArray)(ok:jh T S n):bn (T++U) (S++M) x n=bn T S x n:=by
 unfold bn
 rw[uw (q:=oy T S x) (fun j hj=>by
  have hj:=List.mem_range.1 hj;have:=ok.m;unfold oy;rw[kt S M j (by omega),vN _ (ok.a j hj)])]
theorem v7(x:ByteArray)(ok:jh T S n):iq (T++U) (S++M) x n=iq T S x n:=by
 unfold iq;rw[qt x ok,rC x ok,tP _ x _ ok.m (by rw[mg.2];exact ok.v)]
theorem DF(x:ByteArray)(ok:jh T S n)(hf:kJ T S n):fh (T++U) (S++M) x n=fh T S x n:=by
 unfold fh
 rw[uw (q:=qK T S x n) (fun j hj=>by
  have hj:=List.mem_range.1 hj;have:=ok.m;unfold qK;rw[kt S M j (by omega),oY S M j n ok.m]
  cases h:((au S j).k.toList == [36,102])
  ·rfl
  ·rw[gK T U _ (hf j hj h)])]
theorem ED(x:ByteArray)(con:Bool)(B:List ByteArray)(ok:jh T S n):i6 (T++U) (S++M) x n con B=i6 T S x n con B:=by
 unfold i6;rw[v7 x ok,qt x ok,rC x ok,Cq x ok]
theorem Cd(key x:ByteArray)(B:List ByteArray)(ok:jh T S n)(hf:kJ T S n):id (T++U) (S++M) key x n B=id T S key x n B:=by
 unfold id;rw[rC x ok,Cq x ok,DF x ok hf]
theorem yP(key x:ByteArray)(B:List ByteArray)(ok:jh T S n)(hf:kJ T S n):kB (T++U) (S++M) key x n B=kB T S key x n B:=by
 unfold kB;rw[ED x _ B ok,Cd key x B ok hf]
theorem vY(x:ByteArray)(ok:jh T S n):cZ (T++U) (S++M) x n=cZ T S x n:=by
 unfold cZ;rw[jY S M n ok.m,v7 x ok]
end
theorem CC(T U:List Tk)(h i:Nat)(hh:h<=i)(hi:i<=T.length):eE (T++U) h i=eE T h i:=by
 unfold eE;rw[List.drop_append_of_le_length (by omega),List.take_append_of_le_length (by rw[List.length_drop];omega)]
theorem ub(T U:List Tk)(hT:T.length<=100000)(i:Nat)(hi:i<T.length)(hall:∀j,j<i->a9 T (as T) j=0):a9 (T++U) (as (T++U)) i=a9 T (as T) i:=by
 obtain⟨ok,hf⟩:=J7 T hT i hi hall;obtain⟨M,hM,hz⟩:=vP T U;rw[hM];generalize as T=S at *;have hc:g9 (S++M) i=g9 S i:=CK i S M (fun m hm=>by have:=hz m hm;omega);have hb:=Ih S i;unfold a9;rw[hc,ym S M _ ok.m,gK T U i hi]
 by_cases e:i=ji S (g9 S i)
 ·rw[if_pos e,if_pos e,vY _ ok]
 ·rw[if_neg e,if_neg e,xM T U _ (by omega)]
  split
  ·rfl
  ·next hh =>
   rw[yP _ _ _ ok hf,CC T U _ i (by omega) (by omega)]
theorem pC(T U:List Tk)(hT:T.length<=100000)(h:∀j,j<T.length->a9 T (as T) j=0):∀j,j<T.length->a9 (T++U) (as (T++U)) j=0:=fun j hj=>by
 rw[ub T U hT j hj (fun q hq=>h q (by omega))];exact h j hj
def rD(o:Int)(L:List Sm):Int:=L.foldl (fun o s=>aY o s.k) o
theorem vH(o c:Int)(k:ByteArray):aY (o+c) k=aY o k+c:=by
 unfold aY
 split <;> split <;> omega
theorem yi(L:List Sm):∀o c,rD (o+c) L=rD o L+c:=by
 induction L with
 | nil=>intro o c;rfl
 | cons s L ih =>
  intro o c
  show rD (aY (o+c) s.k) L=rD (aY o s.k) L+c
  rw[vH,ih]
theorem E2(L:List Sm)(s:Sm):∀o,oE o (L++[s])=(oE o L&&decide (0<=rD o (L++[s]))):=by
 induction L with
 | nil =>
  intro o
  show(if aY o s.k<0 then false else oE (aY o s.k) [])=(oE o []&&decide (0<=aY o s.k))
  simp only[oE]
  by_cases h:aY o s.k<0
  ·rw[if_pos h];simp;omega
  ·rw[if_neg h];simp;omega
 | cons a L ih =>
  intro o;rw[List.cons_append,oE,oE]
  by_cases h:aY o a.k<0
  ·rw[if_pos h,if_pos h];rfl
  ·rw[if_neg h,if_neg h,ih];rfl
theorem Bs(S:List Sm)(j n:Nat)(hj:j<=n):rD 0 ((S.drop j).take (n-j))=bF S n-bF S j:=by
 have e:S.take n=S.take j++(S.drop j).take (n-j):=by
  rw[show n=j+(n-j) by omega,List.take_add];simp
 have h2:bF S n=rD (bF S j) ((S.drop j).take (n-j)):=by
  unfold bF rD;rw[e,List.foldl_append]
 have:=yi ((S.drop j).take (n-j)) 0 (bF S j);rw[Int.zero_add]at this;omega
theorem uB(S:List Sm)(j n:Nat)(hj:j<=n)(hn:n<S.length):bC S j (n+1)=(bC S j n&&decide (bF S j<=bF S (n+1))):=by
 have e:(S.drop j).take (n+1-j)=(S.drop j).take (n-j)++[S[n]]:=by
  rw[show n+1-j=(n-j)+1 by omega,List.take_succ_eq_append_getElem (by rw[List.length_drop];omega),List.getElem_drop]
  congr 3;omega
 have hf:=Bs S j (n+1) (by omega);unfold bC;rw[e]at hf ⊢;rw[E2,hf]
 congr 1
 rw[decide_eq_decide];omega
theorem Io(S:List Sm)(j:Nat):bC S j j=true:=by
 unfold bC;rw[Nat.sub_self,List.take_zero,oE]
theorem G6(S:List Sm)(j n:Nat)(hj:j<=n)(hn:n<=S.length)(h:bC S j n=true):∀m,j<=m->m<=n->bF S j<=bF S m:=by
 induction n with
 | zero=>intro m h1 h2;have e:m=j:=by omega
      rw[e];exact Int.le_refl _
 | succ n ih =>
  intro m h1 h2
  by_cases e:j=n+1
  ·have e:m=j:=by omega
   rw[e];exact Int.le_refl _
  ·rw[uB S j n (by omega) (by omega),Bool.and_eq_true,decide_eq_true_eq]at h
   by_cases e2:m=n+1
   ·rw[e2];exact h.2
   ·exact ih (by omega) (by omega) h.1 m h1 (by omega)
def jb(S:List Sm)(n:Nat):List Nat:=(List.range n).filter (fun j=>bC S j n)
theorem gg{S:List Sm}{n j:Nat}(h:j∈jb S n):j<n:=List.mem_range.1 (List.mem_filter.1 h).1
theorem Bk(S:List Sm)(n:Nat)(hn:n<=S.length):(jb S n).Pairwise (fun a b=>bF S a<=bF S b):=by
 have h:=(List.pairwise_lt_range (n:=n)).filter (fun j=>bC S j n);refine h.imp_of_mem (fun {a b} ha hb hab=>?_);have hb:=gg hb;exact G6 S a n (by omega) hn (List.mem_filter.1 ha).2 b (by omega) (by omega)
theorem Cb{f:Nat->Int}(c:Int)(l:List Nat)(h:l.Pairwise (fun a b=>f a<=f b)):l=l.filter (fun j=>decide (f j<=c))++l.filter (fun j=>!decide (f j<=c)):=by
 induction l with
 | nil=>rfl
 | cons a l ih =>
  obtain⟨h1,h2⟩:=List.pairwise_cons.1 h;have ih:=ih h2
  by_cases ha:f a<=c
  ·rw[List.filter_cons_of_pos (by simpa using ha),List.filter_cons_of_neg (by simpa using ha),List.cons_append,<-ih]
  ·have e:l.filter (fun j=>decide (f j<=c))=[]:=by
    rw[List.filter_eq_nil_iff];intro b hb;have:=h1 b hb;simp;omega
   rw[List.filter_cons_of_neg (by simpa using ha),List.filter_cons_of_pos (by simpa using ha),e];rw[e]at ih;rw[List.nil_append]at ih ⊢;rw[<-ih]
theorem pv{n:Nat}{p q:Nat->Bool}(h:∀j,j<n->p j=q j):(List.range n).filter p=(List.range n).filter q :=
 List.filter_congr (fun j hj=>h j (List.mem_range.1 hj))
theorem lh(S:List Sm)(s:Sm):bF (S++[s]) (S.length+1)=aY (bF S S.length) s.k:=by
 rw[rM (S++[s]) S.length (by simp),jY S [s] _ (Nat.le_refl _)]
 congr 2
 simp
theorem po(S:List Sm)(s:Sm):jb (S++[s]) (S.length+1)=(jb S S.length).filter (fun j=>decide (bF S j<=aY (bF S S.length) s.k))++(if 0<=aY 0 s.k then [S.length] else []):=by
 unfold jb;rw[List.range_succ,List.filter_append,List.filter_filter]
 congr 1
 ·refine pv (fun j hj=>?_)
  rw[uB (S++[s]) j S.length (by omega) (by simp),oY S [s] j _ (Nat.le_refl _),jY S [s] j (by omega),lh,Bool.and_comm]
 ·have e:bC (S++[s]) S.length (S.length+1)=decide (0<=aY 0 s.k):=by
   rw[uB (S++[s]) S.length S.length (Nat.le_refl _) (by simp),Io,jY S [s] _ (Nat.le_refl _),lh,Bool.true_and,decide_eq_decide];have:=vH 0 (bF S S.length) s.k;rw[Int.zero_add]at this;omega
  by_cases h:0<=aY 0 s.k
  ·rw[if_pos h,List.filter_cons_of_pos (by rw[e];simpa using h)];rfl
  ·rw[if_neg h,List.filter_cons_of_neg (by rw[e];simpa using h)];rfl
theorem DV{S:List Sm}{n j:Nat}(hn:n<=S.length)(h:j∈jb S n):bF S j<=bF S n:=by
 have hl:=gg h;exact G6 S j n (by omega) hn (List.mem_filter.1 h).2 n (by omega) (Nat.le_refl _)
structure qe(F:Nat->List ByteArray)(S:List Sm)(L:List ByteArray)(B:List Nat):Prop where
 l:L=(jb S S.length).flatMap F
 b:(B.length:Int)=bF S S.length
 o:∀i,i<B.length->B[i]?=some (((jb S S.length).filter (fun j=>decide (bF S j<=(i:Int)))).flatMap F).length
theorem dj{l:List Nat}{F G:Nat->List ByteArray}(h:∀j∈l,F j=G j):l.flatMap F=l.flatMap G:=by
 induction l with
 | nil=>rfl
 | cons a l ih=>rw[List.flatMap_cons,List.flatMap_cons,h a (by simp),ih (fun j hj=>h j (by simp[hj]))]
theorem pg{S:List Sm}{n:Nat}(hn:n<=S.length){c:Int}(hc:bF S n<=c):(jb S n).filter (fun j=>decide (bF S j<=c))=jb S n :=
 List.filter_eq_self.2 (fun j hj=>by have:=DV hn hj;simp;omega)
theorem eC(S:List Sm)(s:Sm):(S++[s]).length=S.length+1:=by simp
theorem na{S:List Sm}{s:Sm}{n:Nat}(hn:n<=S.length)(c:Int):(jb S n).filter (fun j=>decide (bF (S++[s]) j<=c))=(jb S n).filter (fun j=>decide (bF S j<=c)) :=
 List.filter_congr (fun j hj=>by rw[jY S [s] j (by have:=gg hj;omega)])
theorem qe.norm{F F':Nat->List ByteArray}{S:List Sm}{L:List ByteArray}{B:List Nat}(h:qe F S L B)(s:Sm)(hs:∀o,aY o s.k=o)(hF:∀j,j<S.length->F' j=F j):qe F' (S++[s]) (L++F' S.length) B:=by
 have e:=po S s;rw[hs,hs,if_pos (Int.le_refl _),pg (Nat.le_refl _) (Int.le_refl _)]at e;have hb:=h.b;refine⟨?_,?_,fun i hi=>?_⟩
 ·rw[eC,e,List.flatMap_append,h.l,dj (fun j hj=>hF j (gg hj))];simp
 ·rw[eC,lh,hs];exact hb
 ·rw[eC,e,List.filter_append,na (Nat.le_refl _),List.filter_cons_of_neg (by rw[jY S [s] _ (Nat.le_refl _)];simp;omega),List.filter_nil,List.append_nil,dj (fun j hj=>hF j (gg (List.mem_filter.1 hj).1))]
  exact h.o i hi
theorem qe.push{F F':Nat->List ByteArray}{S:List Sm}{L:List ByteArray}{B:List Nat}(h:qe F S L B)(s:Sm)(hs:∀o,aY o s.k=o+1)(hF:∀j,j<S.length->F' j=F j)(h0:F' S.length=[]):qe F' (S++[s]) L (B++[L.length]):=by
 have e:=po S s;rw[hs,hs,if_pos (by omega),pg (Nat.le_refl _) (by omega)]at e;have hb:=h.b
 have one:∀p:Nat->Bool,([S.length].filter p).flatMap F'=[]:=fun p=>by
  rw[List.flatMap_eq_nil_iff];intro j hj;have:=List.mem_singleton.1 (List.mem_filter.1 hj).1;rw[this];exact h0
 refine⟨?_,?_,fun i hi=>?_⟩
 ·rw[eC,e,List.flatMap_append,h.l,dj (fun j hj=>hF j (gg hj))];simp[h0]
 ·rw[eC,lh,hs];simp;omega
 ·rw[eC,e,List.filter_append,na (Nat.le_refl _),List.flatMap_append,one,List.append_nil,dj (fun j hj=>hF j (gg (List.mem_filter.1 hj).1))]
  simp only[List.length_append,List.length_cons,List.length_nil]at hi
  by_cases hi2:i<B.length
  ·rw[List.getElem?_append_left hi2];exact h.o i hi2
  ·have e2:i=B.length:=by omega
   rw[e2,List.getElem?_append_right (Nat.le_refl _),Nat.sub_self,pg (Nat.le_refl _) (by omega),<-h.l];rfl
theorem qe.pop{F F':Nat->List ByteArray}{S:List Sm}{L:List ByteArray}{B:List Nat}{q:Nat}(h:qe F S L (B++[q]))(s:Sm)(hs:∀o,aY o s.k=o-1)(hF:∀j,j<S.length->F' j=F j):qe F' (S++[s]) (L.take q) B:=by
 have e:=po S s;rw[hs,hs,if_neg (by omega),List.append_nil]at e;have hb:=h.b;simp only[List.length_append,List.length_cons,List.length_nil]at hb;have hd:bF S S.length-1=(B.length:Int):=by omega
 rw[hd]at e;have hq:=h.o B.length (by simp);rw[List.getElem?_append_right (Nat.le_refl _),Nat.sub_self]at hq;have hq:q=(((jb S S.length).filter (fun j=>decide (bF S j<=(B.length:Int)))).flatMap F).length:=by simpa using hq
 refine⟨?_,?_,fun i hi=>?_⟩
 ·rw[eC,e,dj (G:=F) (fun j hj=>hF j (gg (List.mem_filter.1 hj).1))]
  have hl:=h.l;rw[Cb (f:=bF S) (B.length:Int) (jb S S.length) (Bk S _ (Nat.le_refl _)),List.flatMap_append]at hl;rw[hl,hq,List.take_append_of_le_length (Nat.le_refl _),List.take_length]
 ·rw[eC,lh,hs];omega
 ·rw[eC,e,List.filter_filter]
  have e3:(jb S S.length).filter (fun j=>decide (bF (S++[s]) j<=(i:Int))&&decide (bF S j<=(B.length:Int)))=(jb S S.length).filter (fun j=>decide (bF S j<=(i:Int))) :=
   List.filter_congr (fun j hj=>by
    rw[jY S [s] j (by have:=gg hj;omega)]
    by_cases hh:bF S j<=(i:Int)
    ·have h2:bF S j<=(B.length:Int):=by omega
     simp[hh,h2]
    ·simp[hh])
  rw[e3,dj (G:=F) (fun j hj=>hF j (gg (List.mem_filter.1 hj).1))];have:=h.o i (by simp;omega);rw[List.getElem?_append_left hi]at this;exact this
def yQ(T:List Tk)(S:List Sm)(j:Nat):List ByteArray:=if((au S j).k.toList == [36,118])=true then bV T (au S j).h else []
def Dr(T:List Tk)(S:List Sm)(j:Nat):List ByteArray:=if((au S j).k.toList == [36,99])=true then bV T (au S j).h else []
def E7(T:List Tk)(S:List Sm)(j:Nat):List ByteArray:=if((au S j).k.toList == [36,102])=true then [tS T ((au S j).h+1)] else []
def Im(T:List Tk)(S:List Sm)(j:Nat):List ByteArray:=if((cd T (au S j)).toList == [])=true then [] else [cd T (au S j)]
theorem nD(F:Nat->List ByteArray)(l:List Nat)(x:ByteArray):aI (l.flatMap F) x=l.any (fun j=>aI (F j) x):=by
 unfold aI;rw[List.any_flatMap]
theorem gI(x:ByteArray):aI [] x=false:=rfl
theorem uN(l m:List ByteArray)(x:ByteArray):aI (l++m) x=(aI l x||aI m x):=by
 unfold aI;rw[List.any_append]
theorem qS(y x:ByteArray):aI [y] x=(y.toList==x.toList):=by simp[aI]
theorem rN(l:List Nat)(p q:Nat->Bool):(l.filter p).any q=l.any (fun j=>p j&&q j):=by
 rw[List.any_filter]
theorem Cl(T:List Tk)(S:List Sm)(x:ByteArray)(n:Nat):jF T S x n=aI ((jb S n).flatMap (yQ T S)) x:=by
 rw[nD];unfold jb;rw[rN];unfold jF im;refine jN (fun j hj=>?_);unfold nS yQ;rw[mg.2]
 cases h:((au S j).k.toList == [36,118])
 ·rw[if_neg (by simp),gI];simp
 ·rw[if_pos rfl];simp[Bool.and_comm]
theorem qW(T:List Tk)(S:List Sm)(x:ByteArray)(n:Nat):dP T S x n=aI ((List.range n).flatMap (Dr T S)) x:=by
 rw[nD];unfold dP im;refine jN (fun j hj=>?_);unfold nS Dr;rw[mg.1]
 cases h:((au S j).k.toList == [36,99])
 ·rw[if_neg (by simp),gI];simp
 ·rw[if_pos rfl];simp
theorem Bf(T:List Tk)(S:List Sm)(x:ByteArray)(n:Nat):im T S ⟨#[36,118]⟩ x n false=aI ((List.range n).flatMap (yQ T S)) x:=by
 rw[nD];unfold im;refine jN (fun j hj=>?_);unfold nS yQ;rw[mg.2]
 cases h:((au S j).k.toList == [36,118])
 ·rw[if_neg (by simp),gI];simp
 ·rw[if_pos rfl];simp
theorem Js(l:List Nat)(p:Nat->Bool):(match l.find? p with | some j=>(j:Int) | none=>-1)=-1 ↔ l.any p=false:=by
 cases h:l.find? p with
 | none=>simp only[true_iff];rw[List.any_eq_false];rw[List.find?_eq_none]at h;exact h
 | some j =>
  have h1:=List.find?_some h;have h2:=List.mem_of_find?_eq_some h;have h3:l.any p=true:=List.any_eq_true.2 ⟨j,h2,h1⟩;rw[h3];simp only[Bool.true_eq_false,iff_false];intro h4;have:(0:Int)<=(j:Int):=by omega
  omega
theorem Cx(l:List Nat)(p:Nat->Bool):decide (0<=(match l.find? p with | some j=>(j:Int) | none=>-1))=l.any p:=by
 cases h:l.find? p with
 | none =>
  have:=(Js l p).1 (by rw[h]);rw[this];rfl
 | some j =>
  have h3:l.any p=true:=List.any_eq_true.2 ⟨j,List.mem_of_find?_eq_some h,List.find?_some h⟩;rw[h3];simp
theorem pM(T:List Tk)(S:List Sm)(x:ByteArray)(n:Nat):decide (0<=bn T S x n)=aI ((List.range n).flatMap (Im T S)) x:=by
 rw[nD];unfold bn;refine(Cx (List.range n) (oy T S x)).trans ?_;refine jN (fun j hj=>?_);unfold oy Im
 cases h:((cd T (au S j)).toList == [])
 ·rw[if_neg (by simp),qS];simp
 ·rw[if_pos rfl,gI];simp
theorem EU(T:List Tk)(S:List Sm)(x:ByteArray)(n:Nat):decide (0<=fh T S x n)=aI ((jb S n).flatMap (E7 T S)) x:=by
 rw[nD];unfold jb;rw[rN];unfold fh;refine(Cx (List.range n) (qK T S x n)).trans ?_;refine jN (fun j hj=>?_);unfold qK E7
 cases h:((au S j).k.toList == [36,102])
 ·rw[if_neg (by simp),gI];simp
 ·rw[if_pos rfl,qS];simp[Bool.and_comm]
end Go.Proofs.YtpddjjabfbfifaaGreat

import Derived.Test.YtpddjjabfbfifaaGreatG41
import Derived.Test.YtpddjjabfbfifaaGreatG42
namespace Go.Proofs.YtpddjjabfbfifaaGreat
open Go.RowKit
set_option maxHeartbeats 40000000
theorem AL(T:List Tk)(hT:T.length<=100000)(hall:∀j,j<T.length->a9 T (as T) j=0):ji T (as T) (as T).length/\kI T (as T) (as T).length:=by
 have p:=fL T;have hl:(as T).length<=T.length:=sB T T.length;generalize as T=S at *;have hw:=fun j (hj:j<S.length)=>zk p j hj (fun q _ h2=>hall q (by have:=(p.s j hj).2;omega))
 refine⟨⟨Nat.le_refl _,by omega,hT,fun j hj=>(hw j hj).1,fun j hj=>(hw j hj).2.1,fun j hj=>?_⟩,fun j hj=>(hw j hj).2.2⟩;have:=(p.s j hj).1.lt;have:=(p.s j hj).2;omega
structure ss(T:List Tk)(S:List Sm)(d:Db):Prop where
 con:d.constants=(List.range S.length).flatMap (Di T S)
 var:∀x,aI d.variables x=aI ((List.range S.length).flatMap (zq T S)) x
 act:qn (zq T S) S d.active (d.blocks.map (·.1))
 typ:qn (Dt T S) S d.typed (d.blocks.map (·.2))
def jJ(T:List Tk)(S:List Sm):List ByteArray:=(List.range S.length).flatMap (FR T S)
inductive KeyK:List UInt8->Int->Prop
 | c:KeyK [36,99] 7
 | v:KeyK [36,118] 8
 | d:KeyK [36,100] 1
 | f:KeyK [36,102] 2
 | e:KeyK [36,101] 3
 | a:KeyK [36,97] 4
 | p:KeyK [36,112] 5
def jF(y:ByteArray):Bool:=!(y.toList == [36,61])
inductive OpE (T:List Tk) (d:Db):Prop
 | none:gi T=T.length->d.kind=0->d.symbols=[]->d.inProof=false->d.labels=jJ T (as T)->OpE T d
 | lab:gi T+1=T.length->d.kind=6->d.symbols=[]->d.inProof=false->d.labels=jJ T (as T)++[tS T (gi T)]->((tS T (gi T)).toList == [])=false->fX (tS T (gi T)) ⟨#[36]⟩=false->OpE T d
 | body (key:ByteArray) (head:Nat) (B:List ByteArray):dZ T (gi T)=(key,head)->gi T<head->head<=T.length->KeyK key.toList d.kind->eD T head T.length=B->d.inProof=aI B ⟨#[36,61]⟩->d.symbols=B.takeWhile jF->(d.inProof=true->d.kind=5/\d.symbols≠[]) ->
   d.labels=jJ T (as T)++(if(aE key||aH key)=true then [tS T (gi T)] else [])->((aE key||aH key)=true->((tS T (gi T)).toList == [])=false)->OpE T d
theorem qn.congr{F F':Nat->List ByteArray}{S:List Sm}{L:List ByteArray}{B:List Nat}(h:qn F S L B)(hF:∀j,j<S.length->F' j=F j):qn F' S L B :=
 ⟨by rw[dm (G:=F) (fun j hj=>hF j (f8 hj))];exact h.l,h.b,fun i hi=>by rw[dm (G:=F) (fun j hj=>hF j (f8 (List.mem_filter.1 hj).1))];exact h.o i hi⟩
section
variable {T U:List Tk} {S M:List Sm}
theorem mX(ok:ji T S S.length)(j:Nat)(hj:j<S.length):zq (T++U) (S++M) j=zq T S j:=by
 unfold zq;rw[ke S M j hj]
 split
 ·next h=>rw[tx T U _ (ok.v j hj h)]
 ·rfl
theorem sC(ok:ji T S S.length)(j:Nat)(hj:j<S.length):Di (T++U) (S++M) j=Di T S j:=by
 unfold Di;rw[ke S M j hj]
 split
 ·next h=>rw[tx T U _ (ok.c j hj h)]
 ·rfl
theorem sF(hf:kI T S S.length)(j:Nat)(hj:j<S.length):Dt (T++U) (S++M) j=Dt T S j:=by
 unfold Dt;rw[ke S M j hj]
 split
 ·next h=>rw[gG T U _ (hf j hj h)]
 ·rfl
theorem CO(ok:ji T S S.length)(j:Nat)(hj:j<S.length):FR (T++U) (S++M) j=FR T S j:=by
 unfold FR;rw[ke S M j hj,vA _ (ok.a j hj)]
end
theorem mP{F F':Nat->List ByteArray}{n:Nat}(h:∀j,j<n->F' j=F j):(List.range n).flatMap F'=(List.range n).flatMap F:=dm (fun j hj=>h j (List.mem_range.1 hj))
theorem dY{F F':Nat->List ByteArray}{n:Nat}(h:∀j,j<n->F' j=F j):(List.range (n+1)).flatMap F'=(List.range n).flatMap F++F' n:=by
 rw[List.range_succ,List.flatMap_append,mP h];simp
theorem om{T U:List Tk}{S:List Sm}(ok:ji T S S.length):jJ (T++U) S=jJ T S:=by
 unfold jJ;exact mP (fun j hj=>by have:=CO (U:=U) (M:=[]) ok j hj;rw[List.append_nil]at this;exact this)
theorem qB{T U:List Tk}{S:List Sm}(s:Sm)(ok:ji T S S.length):jJ (T++U) (S++[s])=jJ T S++FR (T++U) (S++[s]) S.length:=by
 unfold jJ;rw[eC];exact dY (fun j hj=>CO ok j hj)
theorem ss.same{T U:List Tk}{S:List Sm}{d d':Db}(h:ss T S d)(ok:ji T S S.length)(hf:kI T S S.length)(e1:d'.constants=d.constants)(e2:d'.variables=d.variables)(e3:d'.active=d.active)(e4:d'.typed=d.typed)(e5:d'.blocks=d.blocks):ss (T++U) S d':=by
 have hv:∀j,j<S.length->zq (T++U) S j=zq T S j:=fun j hj=>by have:=mX (U:=U) (M:=[]) ok j hj;rw[List.append_nil]at this;exact this
 have hc:∀j,j<S.length->Di (T++U) S j=Di T S j:=fun j hj=>by have:=sC (U:=U) (M:=[]) ok j hj;rw[List.append_nil]at this;exact this
 have hg:∀j,j<S.length->Dt (T++U) S j=Dt T S j:=fun j hj=>by have:=sF (U:=U) (M:=[]) hf j hj;rw[List.append_nil]at this;exact this
 exact⟨by rw[e1,mP hc];exact h.con,fun x=>by rw[e2,mP hv];exact h.var x,by rw[e3,e5];exact h.act.congr hv,by rw[e4,e5];exact h.typ.congr hg⟩
theorem l8(S:List Sm)(s:Sm):au (S++[s]) S.length=s:=rB S s
theorem ss.close{T U:List Tk}{S:List Sm}{d d':Db}(h:ss T S d)(ok:ji T S S.length)(hf:kI T S S.length)(s:Sm)(hs:∀o,aY o s.k=o)
  (e1:d'.constants=d.constants++Di (T++U) (S++[s]) S.length) (e2:∀x,aI d'.variables x=(aI d.variables x||aI (zq (T++U) (S++[s]) S.length) x)) (e3:d'.active=d.active++zq (T++U) (S++[s]) S.length) (e4:d'.typed=d.typed++Dt (T++U) (S++[s]) S.length) (e5:d'.blocks=d.blocks):ss (T++U) (S++[s]) d' :=
 ⟨by rw[eC,dY (fun j hj=>sC ok j hj),<-h.con];exact e1,fun x=>by rw[eC,dY (fun j hj=>mX ok j hj),uC,<-h.var];exact e2 x,
  by rw[e3,e5];exact h.act.norm s hs (fun j hj=>mX ok j hj),by rw[e4,e5];exact h.typ.norm s hs (fun j hj=>sF hf j hj)⟩
theorem zQ(T:List Tk)(t:Tk)(hT:T.length<=100000)(hall:∀j,j<T.length->a9 T (as T) j=0):a9 (T++[t]) (as (T++[t])) T.length =
  if T.length=gi T then cU T (as T) t.s (as T).length
  else if T.length<(dZ (T++[t]) (gi T)).2 then(if(aE t.s||aH t.s)=true then 0 else 14)
  else kq T (as T) (dZ (T++[t]) (gi T)).1 t.s (as T).length (eD T (dZ (T++[t]) (gi T)).2 T.length):=by
 obtain⟨ok,hf⟩:=AL T hT hall;obtain⟨M,hM,hz⟩:=wb T [t];have p:=fL T;rw[hM,As];generalize as T=S at *
 have hc:hZ (S++M) T.length=S.length:=by
  unfold hZ;rw[CA T.length S M hz];exact Gy _ S S.length (fun q hq=>⟨au S q,CY S q hq,(p.s q hq).2⟩) (fun s hs=>by rw[List.getElem?_eq_none (Nat.le_refl _)]at hs;cases hs)
 unfold a9;rw[hc,yI S M _ (Nat.le_refl _),qc]
 by_cases e:T.length=jh S S.length
 ·rw[if_pos e,if_pos e,vU _ ok]
 ·rw[if_neg e,if_neg e]
  split
  ·rfl
  ·next hh=>rw[zW _ _ _ ok hf,C1 T [t] _ _ (by omega) (Nat.le_refl _)]
theorem zN{T:List Tk}{S:List Sm}{d:Db}(h:ss T S d)(hl:d.labels=jJ T S)(x:ByteArray):iu T S x S.length=dj d x:=by
 unfold iu dj;rw[qm,rk,BC,<-h.con,<-h.var,hl,Bool.or_assoc];rfl
theorem Dx{T:List Tk}{S:List Sm}{d:Db}(h:ss T S d)(hl:d.labels=jJ T S)(x:ByteArray):(decide (0<=bn T S x S.length)||(dM T S x S.length||jC T S x S.length))=dB d x:=by
 unfold dB;rw[qm,rk,Cw,<-h.con,<-h.act.l,hl,Bool.or_assoc];rfl
theorem Ik{T:List Tk}{S:List Sm}{d:Db}(h:ss T S d):bF S S.length=(d.blocks.length:Int):=by
 have:=h.act.b;rw[List.length_map]at this;exact this.symm
theorem tR{l:List UInt8}{k:ByteArray}(h:k.toList=l)(o:Int):aY o k=if(l == [36,125])=true then(if(l == [36,123])=true then o+1 else o)-1 else(if(l == [36,123])=true then o+1 else o):=by
 unfold aY;rw[h]
theorem kG{l:List UInt8}{k:ByteArray}(h:k.toList=l):aE k=((l == [36,97])||(l == [36,112]))/\aH k=((l == [36,102])||(l == [36,101]))/\b7 k=((l == [36,46])||(l == [36,123])||(l == [36,125])):=by
 unfold aE aH b7;rw[h];exact⟨rfl,rfl,rfl⟩
theorem Bj{l:List UInt8}{k:ByteArray}(h:k.toList=l):fX k ⟨#[36]⟩=fX ⟨l.toArray⟩ ⟨#[36]⟩:=by
 rw[mS (x:=k) (l:=l) (by rw[h];simp)]
theorem KeyK.dep{k:ByteArray}{n:Int}(h:KeyK k.toList n):(∀o,aY o k=o)/\fX k ⟨#[36]⟩=true/\b7 k=false:=by
 generalize hl:k.toList=l at h;have h1:=fun o=>tR hl o
 have h2:=Bj hl;have h3:=(kG hl).2.2
 cases h <;> exact⟨fun o=>h1 o,h2.trans (by decide +kernel),h3⟩
section
variable {T:List Tk} {t:Tk} {d:Db}
theorem ym(hf:gi T=T.length)(hd:fX t.s ⟨#[36]⟩=true):dZ (T++[t]) (gi T)=(t.s,T.length+1):=by
 unfold dZ;rw[hf,qc,hd];simp
theorem sO{key:ByteArray}{head:Nat}{n:Int}(hk:dZ T (gi T)=(key,head))(hlt:gi T<head)(hh:head<=T.length)(hK:KeyK key.toList n):dZ (T++[t]) (gi T)=(key,head):=by
 rw[<-hk]
 by_cases h:gi T+1<T.length
 ·exact wI T [t] _ h
 ·have e:dZ T (gi T)=(tS T (gi T),gi T+1):=by
   unfold dZ;rw[if_pos (by simp;right;omega)]
  rw[hk]at e;have e1:key=tS T (gi T):=congrArg Prod.fst e;have hs:=hK.dep.2.1;rw[e1]at hs;unfold dZ;rw[gG T [t] _ (by omega),hs];simp
theorem mK(T:List Tk)(h:Nat):eD T h T.length=(T.drop h).map (·.s):=by
 unfold eD;rw[List.take_of_length_le (by rw[List.length_drop];exact Nat.le_refl _)]
theorem Gu(t:Tk)(h:Nat)(hh:h<=T.length):eD (T++[t]) h (T++[t]).length=eD T h T.length++[t.s]:=by
 rw[mK,mK,List.drop_append_of_le_length hh];simp
theorem zc(L:List Tk)(t:Tk)(hL:∀u∈L,(u.s.toList == [36,46])=false)(ht:(t.s.toList == [36,46])=true):lk (L++[t])=(L.map (·.s)).takeWhile jF:=by
 induction L with
 | nil=>rw[List.nil_append,lk,if_pos (pL ht)];rfl
 | cons a L ih =>
  have h1:=hL a (by simp);rw[List.cons_append,lk,List.map_cons]
  cases h2:(a.s.toList == [36,61])
  ·rw[if_neg (by unfold lD;rw[h1,h2];simp),List.takeWhile_cons_of_pos (by unfold jF;rw[h2];rfl),ih (fun u hu=>hL u (by simp[hu]))]
  ·rw[if_pos (by unfold lD;rw[h2];rfl),List.takeWhile_cons_of_neg (by unfold jF;rw[h2];simp)]
theorem DQ(T:List Tk)(h:Nat)(hh:gi T<=h):∀u∈T.drop h,b7 u.s=false:=by
 intro u hu;obtain⟨q,hq,e⟩:=List.getElem_of_mem hu;rw[List.length_drop]at hq;have:=(fL T).n (h+q) (by unfold gi at hh;omega) (by omega);rw[List.getElem_drop]at e;unfold tS at this;rw[List.getD_eq_getElem?_getD,List.getElem?_eq_getElem (by omega)]at this;rw[<-e];exact this
theorem FJ(B:List ByteArray)(h:aI B ⟨#[36,61]⟩=false):∀y∈B,jF y=true:=by
 intro y hy;unfold aI at h;rw[List.any_eq_false]at h;have:=h y hy;have e:(⟨#[36,61]⟩:ByteArray).toList=[36,61]:=by decide +kernel
 rw[e]at this;unfold jF;simpa using this
theorem DL(B:List ByteArray)(h:∀y∈B,jF y=true):B.takeWhile jF=B:=by
 induction B with
 | nil=>rfl
 | cons a B ih=>rw[List.takeWhile_cons_of_pos (h a (by simp)),ih (fun y hy=>h y (by simp[hy]))]
theorem sA(B:List ByteArray)(h:aI B ⟨#[36,61]⟩=false):B.takeWhile jF=B:=DL B (FJ B h)
theorem FE(B:List ByteArray)(y:ByteArray)(h:aI B ⟨#[36,61]⟩=true):(B++[y]).takeWhile jF=B.takeWhile jF:=by
 have e:(⟨#[36,61]⟩:ByteArray).toList=[36,61]:=by decide +kernel
 induction B with
 | nil=>cases h
 | cons a B ih =>
  rw[List.cons_append]
  cases h2:(a.toList == [36,61])
  ·have h3:aI B ⟨#[36,61]⟩=true:=by
    unfold aI at h ⊢;rw[List.any_cons,e,h2,Bool.false_or]at h;rw[e];exact h
   rw[List.takeWhile_cons_of_pos (by unfold jF;rw[h2];rfl),List.takeWhile_cons_of_pos (by unfold jF;rw[h2];rfl),ih h3]
  ·rw[List.takeWhile_cons_of_neg (by unfold jF;rw[h2];simp),List.takeWhile_cons_of_neg (by unfold jF;rw[h2];simp)]
end
theorem g9{l m:List UInt8}{x:ByteArray}(h:(x.toList==l)=true):(x.toList==m)=(l==m):=by
 have:x.toList=l:=by simpa using h
 rw[this]
section
variable {T:List Tk} {S:List Sm} {f:Nat}
structure tZ(T:List Tk)(S:List Sm)(j:Nat):Prop where
 le:(au S j).h<=(au S j).z-1
 zt:(au S j).z<=T.length
 pos:0<(au S j).z
 dot:((tS T ((au S j).z-1)).toList == [36,46])=true
 cl:gd (au S j).k (eD T (au S j).h ((au S j).z-1))=0
 w:∀q,(au S j).h<=q->q<(au S j).z-1->kq T S (au S j).k (tS T q) j (eD T (au S j).h q)=0/\b7 (tS T q)=false
theorem nE(p:Aa T T.length S f)(hall:∀q,q<T.length->a9 T S q=0)(j:Nat)(h:j<S.length)(hk:b7 (au S j).k=false):tZ T S j:=by
 have hW:=Cr p j h;obtain⟨P,hzT⟩:=p.s j h
 have core:(au S j).h<=(au S j).z-1->(au S j).a<(au S j).h->tZ T S j:=fun hle hah=>by
  have hlt:=P.lt;have L0:=hall ((au S j).z-1) (by omega);rw[hW ((au S j).z-1) (by omega) (by omega),if_neg (by omega),if_neg (by omega)]at L0;obtain⟨d1,d2⟩:=ua P.e L0;refine⟨hle,hzT,by omega,d1,d2,fun q h1 h2=>?_⟩;have Q:=hall q (by omega);rw[hW q (by omega) (by omega),if_neg (by omega),if_neg (by omega)]at Q;exact⟨Q,P.n q (by omega) h2⟩
 have ky:=P.k;have lt:=P.lt;unfold dZ at ky
 by_cases hA:(fX (tS T (au S j).a) ⟨#[36]⟩||decide (T.length<=(au S j).a+1))=true
 ·rw[if_pos hA]at ky
  have e1:(au S j).k=tS T (au S j).a:=congrArg Prod.fst ky;have e2:(au S j).h=(au S j).a+1:=congrArg Prod.snd ky;refine core ?_ (by omega)
  by_cases hz:(au S j).z-1=(au S j).a
  ·have:=P.e
   rw[hz,<-e1,hk]at this
   cases this
  ·omega
 ·rw[if_neg hA]at ky
  have e1:(au S j).k=tS T ((au S j).a+1):=congrArg Prod.fst ky;have e2:(au S j).h=(au S j).a+2:=congrArg Prod.snd ky
  have hno:fX (tS T (au S j).a) ⟨#[36]⟩=false:=by
   cases e:fX (tS T (au S j).a) ⟨#[36]⟩
   ·rfl
   ·rw[e]at hA;exact absurd rfl hA
  refine core ?_ (by omega)
  have hz1:(au S j).z-1≠(au S j).a:=fun e=>by
   have:=(kB P.e).1;rw[e,hno]at this;cases this
  have hz2:(au S j).z-1≠(au S j).a+1:=fun e=>by
   have:=P.e;rw[e,<-e1,hk]at this;cases this
  omega
theorem qo(T:List Tk)(h i q:Nat)(h1:h+q<i)(h2:i<=T.length):(eD T h i).getD q ⟨#[]⟩=tS T (h+q):=by
 unfold eD tS;rw[List.getD_eq_getElem?_getD,List.getElem?_map,List.getElem?_take,if_pos (by omega),List.getElem?_drop,List.getD_eq_getElem?_getD];rw[List.getElem?_eq_getElem (by omega)];rfl
theorem nB(T:List Tk)(h i:Nat)(h1:h<=i)(h2:i<=T.length):(eD T h i).length=i-h:=by
 unfold eD;rw[List.length_map,List.length_take,List.length_drop];omega
theorem tF{j:Nat}(P:tZ T S j):bV T (au S j).h=(eD T (au S j).h ((au S j).z-1)).takeWhile jF:=by
 have hzl:=P.zt;have hz0:=P.pos;have hle:=P.le;unfold bV
 have e:T.drop (au S j).h=(T.drop (au S j).h).take ((au S j).z-1-(au S j).h)++(T.getD ((au S j).z-1) ic) :: T.drop (au S j).z:=by
  conv=>lhs;rw[<-List.take_append_drop ((au S j).z-1-(au S j).h) (T.drop (au S j).h)]
  rw[List.drop_drop,show(au S j).h+((au S j).z-1-(au S j).h)=(au S j).z-1 by omega,Cn T ((au S j).z-1) (by omega),show(au S j).z-1+1=(au S j).z by omega]
 rw[e,show ∀(L:List Tk) (t:Tk) (M:List Tk),L++t :: M=(L++[t])++M from fun L t M=>by simp,wk]
 ·rw[zc _ _ (fun u hu=>?_) P.dot]
  ·rfl
  ·obtain⟨q,hq,e2⟩:=List.getElem_of_mem hu
   rw[List.length_take,List.length_drop]at hq;have:=(P.w ((au S j).h+q) (by omega) (by omega)).2;unfold b7 at this;simp only[Bool.or_eq_false_iff]at this
   have e3:u.s=tS T ((au S j).h+q):=by
    rw[<-e2,List.getElem_take,List.getElem_drop];unfold tS;rw[List.getD_eq_getElem?_getD,List.getElem?_eq_getElem (by omega)];rfl
   rw[e3];exact this.1.1
 ·exact⟨T.getD ((au S j).z-1) ic,by simp,pL P.dot⟩
theorem rx{j:Nat}(P:tZ T S j):eF T (au S j).h:=⟨(au S j).z-1,P.le,by have:=P.zt;have:=P.pos;omega,pL P.dot⟩
theorem sK{key x:ByteArray}{n:Nat}{B:List ByteArray}(h:kq T S key x n B=0)(hx:(x.toList == [36,61])=true):(key.toList == [36,112])=true/\aI B ⟨#[36,61]⟩=false/\B.length≠0:=by
 unfold kq at h;rw[g9 hx (m:=[36,46]),if_neg (by decide),hx,Bool.true_and]at h
 cases h1:(key.toList == [36,112])
 ·rw[h1,Bool.false_and,if_neg (by simp),if_pos (by rw[mS hx];decide +kernel)]at h;cases h
 ·cases h2:aI B ⟨#[36,61]⟩
  ·rw[h1,h2]at h
   by_cases hz:B.length=0
   ·rw[if_pos (by rfl),if_pos hz]at h;cases h
   ·exact⟨rfl,rfl,hz⟩
  ·rw[h1,h2,if_neg (by decide),if_pos (by rw[mS hx];decide +kernel)]at h;cases h
end
section
variable {T:List Tk} {S:List Sm} {f:Nat}
theorem xy(T:List Tk)(h:Nat):eD T h h=[]:=by unfold eD;rw[Nat.sub_self];simp
theorem sH{j:Nat}(P:tZ T S j):0<(eD T (au S j).h ((au S j).z-1)).length/\(((au S j).k.toList == [36,102])=true->1<(eD T (au S j).h ((au S j).z-1)).length):=by
 have hc:=P.cl;unfold gd at hc
 split at hc
 ·cases hc
 ·next h1 =>
  split at hc
  ·cases hc
  ·next h2 =>
   refine⟨by omega,fun hk=>?_⟩;have:¬(eD T (au S j).h ((au S j).z-1)).length<2:=fun hl=>h2 (by rw[hk];simp[hl])
   omega
theorem xu{h i:Nat}{x:ByteArray}(h1:h<=i)(h2:i<=T.length)(hx:aI (eD T h i) x=true):∃q,h<=q/\q<i/\tS T q=x:=by
 unfold aI at hx;obtain⟨y,hy,e⟩:=List.any_eq_true.1 hx;obtain⟨q,hq,e2⟩:=List.getElem_of_mem hy;rw[nB T h i h1 h2]at hq;refine⟨h+q,by omega,by omega,?_⟩;have e3:=qo T h i q (by omega) h2;rw[List.getD_eq_getElem?_getD,List.getElem?_eq_getElem (by rw[nB T h i h1 h2];exact hq)]at e3;have e4:(eD T h i)[q]=tS T (h+q):=e3;rw[<-e4,e2];have:y.toList=x.toList:=by simpa using e
 apply ByteArray.ext
 apply Array.toList_inj.1
 rw[<-ByteArray.toList_eq,<-ByteArray.toList_eq,this]
theorem qE{j:Nat}(P:tZ T S j)(hk:((au S j).k.toList == [36,112])=false):bV T (au S j).h=eD T (au S j).h ((au S j).z-1):=by
 rw[tF P];refine sA _ ?_
 cases e:aI (eD T (au S j).h ((au S j).z-1)) ⟨#[36,61]⟩
 ·rfl
 ·have hz:=P.zt
  have hz0:=P.pos;obtain⟨q,h1,h2,e2⟩:=xu P.le (by omega) e;have hr:=(P.w q h1 h2).1;have:=(sK hr (by rw[e2];decide +kernel)).1;rw[hk]at this;cases this
theorem qG{j:Nat}(P:tZ T S j):((tS T (au S j).h).toList == [36,61])=false/\(au S j).h<(au S j).z-1:=by
 have hl:=(sH P).1;have hz:=P.zt;have hz0:=P.pos;rw[nB T _ _ P.le (by omega)]at hl;have hlt:(au S j).h<(au S j).z-1:=by omega
 refine⟨?_,hlt⟩
 cases e:((tS T (au S j).h).toList == [36,61])
 ·rfl
 ·have hr:=(P.w _ (Nat.le_refl _) hlt).1
  have:=(sK hr e).2.2;rw[xy]at this;exact absurd rfl this
theorem wg{j:Nat}(P:tZ T S j):0<(bV T (au S j).h).length/\(bV T (au S j).h).getD 0 ⟨#[]⟩=tS T (au S j).h:=by
 obtain⟨h1,h2⟩:=qG P;have hz:=P.zt;have hg:=qo T (au S j).h ((au S j).z-1) 0 (by omega) (by omega);have hl:=(sH P).1;rw[tF P];rw[Nat.add_zero]at hg;generalize eD T (au S j).h ((au S j).z-1)=B at *
 cases B with
 | nil=>simp at hl
 | cons x B =>
  have e:x=tS T (au S j).h:=hg;have hq:jF x=true:=by unfold jF;rw[e,h1];rfl
  rw[List.takeWhile_cons_of_pos hq];exact⟨by simp,e⟩
theorem Ly(p:Aa T T.length S f)(hall:∀q,q<T.length->a9 T S q=0)(n:Nat)(hn:n<=S.length):Iv T S n:=fun j hj hk=>by
 have hends:b7 (au S j).k=false:=by
  unfold aE aH at hk;simp only[Bool.or_eq_true]at hk
  rcases hk with (h | h) | (h | h) <;> exact fY h (by decide)
 have P:=nE p hall j (by omega) hends;refine⟨(wg P).1,fun hf=>?_⟩;have hnp:((au S j).k.toList == [36,112])=false:=by rw[g9 hf];decide
 show 1<(bV T (au S j).h).length
 rw[qE P hnp];exact(sH P).2 hf
theorem tG{key x:ByteArray}{n:Nat}{B:List ByteArray}(h:kq T S key x n B=0)(he:b7 x=false)(hq:(x.toList == [36,61])=false)(hB:aI B ⟨#[36,61]⟩=false):(if((key.toList == [36,99])||(key.toList == [36,118]))=true then iY T S x n (key.toList == [36,99]) B else ik T S key x n B)=0:=by
 unfold kq at h
 have hd:(x.toList == [36,46])=false:=by
  unfold b7 at he;simp only[Bool.or_eq_false_iff]at he;exact he.1.1
 rw[hd,hq,hB,if_neg (by simp),Bool.false_and,if_neg (by simp)]at h
 split at h
 ·cases h
 ·exact h
theorem Hz{j:Nat}(P:tZ T S j)(hk:(aE (au S j).k||aH (au S j).k)=true):dM T S (tS T (au S j).h) j=true:=by
 obtain⟨h1,h2⟩:=qG P;obtain⟨hr,he⟩:=P.w _ (Nat.le_refl _) h2;rw[xy]at hr;have hs:=tG hr he h1 rfl
 have hkk:(((au S j).k.toList == [36,99])||((au S j).k.toList == [36,118]))=false/\((au S j).k.toList == [36,100])=false:=by
  unfold aE aH at hk;simp only[Bool.or_eq_true]at hk
  rcases hk with (h | h) | (h | h) <;> (rw[g9 h,g9 h,g9 h];decide)
 rw[hkk.1,if_neg (by simp)]at hs;unfold ik at hs;rw[hkk.2,if_neg (by simp),if_pos (by rfl)]at hs
 cases hc:dM T S (tS T (au S j).h) j
 ·rw[hc,if_pos rfl]at hs;cases hs
 ·rfl
theorem Ln{j:Nat}(P:tZ T S j)(hk:((au S j).k.toList == [36,102])=true):jC T S (tS T ((au S j).h+1)) j=true/\(bV T (au S j).h).getD 1 ⟨#[]⟩=tS T ((au S j).h+1):=by
 have hl:=(sH P).2 hk;have hz:=P.zt;have hz0:=P.pos;rw[nB T _ _ P.le (by omega)]at hl;have hnp:((au S j).k.toList == [36,112])=false:=by rw[g9 hk];decide
 have hg:=qo T (au S j).h ((au S j).z-1) 1 (by omega) (by omega);refine⟨?_,by rw[qE P hnp];exact hg⟩;obtain⟨hr,he⟩:=P.w ((au S j).h+1) (by omega) (by omega)
 have hq:((tS T ((au S j).h+1)).toList == [36,61])=false:=by
  cases e:((tS T ((au S j).h+1)).toList == [36,61])
  ·rfl
  ·have:=(sK hr e).1
   rw[hnp]at this;cases this
 have hb:eD T (au S j).h ((au S j).h+1)=[tS T (au S j).h]:=by
  have:=xT T (au S j).h (au S j).h (Nat.le_refl _) (by omega);rw[xy]at this;exact this
 have hB:aI (eD T (au S j).h ((au S j).h+1)) ⟨#[36,61]⟩=false:=by
  rw[hb,qR];have e:(⟨#[36,61]⟩:ByteArray).toList=[36,61]:=by decide +kernel
  rw[e];exact(qG P).1
 have hs:=tG hr he hq hB;rw[g9 hk,g9 hk,if_neg (by decide)]at hs;unfold ik at hs;rw[hb,g9 hk,if_neg (by decide),if_neg (by simp),hk,if_pos rfl,if_neg (by simp)]at hs
 cases hv:jC T S (tS T ((au S j).h+1)) j
 ·rw[hv,if_pos rfl]at hs;cases hs
 ·rfl
theorem xY(p:Aa T T.length S f)(hall:∀q,q<T.length->a9 T S q=0){x:ByteArray}{i k:Nat}(hi:i<=S.length)(hk:k<=S.length)(h1:dM T S x i=true)(h2:jC T S x k=true):False:=by
 unfold dM io at h1;unfold jC io at h2;obtain⟨j,hj,e1⟩:=List.any_eq_true.1 h1;obtain⟨m,hm,e2⟩:=List.any_eq_true.1 h2;have hj:=List.mem_range.1 hj;have hm:=List.mem_range.1 hm;unfold nG at e1 e2;rw[mm.1,Bool.and_eq_true,Bool.and_eq_true]at e1;rw[mm.2,Bool.and_eq_true,Bool.and_eq_true]at e2;obtain⟨c1,c2,-⟩:=e1;obtain⟨v1,v2,-⟩:=e2
 have word:∀(j:Nat),j<S.length->(((au S j).k.toList == [36,99])=true∨((au S j).k.toList == [36,118])=true)->aI (bV T (au S j).h) x=true->∃B,iY T S x j ((au S j).k.toList == [36,99]) B=0:=fun j hj hkey hb=>by
  have hends:b7 (au S j).k=false:=by rcases hkey with h | h <;> exact fY h (by decide)
  have P:=nE p hall j hj hends;have hnp:((au S j).k.toList == [36,112])=false:=by rcases hkey with h | h <;> (rw[g9 h];decide)
  rw[qE P hnp]at hb;have hz:=P.zt;have hz0:=P.pos;obtain⟨q,q1,q2,e⟩:=xu P.le (by omega) hb;obtain⟨hr,he⟩:=P.w q q1 q2
  have noeq:∀q,(au S j).h<=q->q<(au S j).z-1->((tS T q).toList == [36,61])=false:=fun q h1 h2=>by
   cases e:((tS T q).toList == [36,61])
   ·rfl
   ·have:=(sK (P.w q h1 h2).1 e).1
    rw[hnp]at this;cases this
  have hB:aI (eD T (au S j).h q) ⟨#[36,61]⟩=false:=by
   cases e3:aI (eD T (au S j).h q) ⟨#[36,61]⟩
   ·rfl
   ·obtain⟨q',a1,a2,a3⟩:=xu q1 (by omega) e3
    have:=noeq q' a1 (by omega);rw[a3]at this;exact absurd this (by decide +kernel)
  have hs:=tG hr he (noeq q q1 q2) hB;rw[if_pos (by rcases hkey with h | h <;> rw[h] <;> simp),e]at hs;exact⟨_,hs⟩
 obtain⟨B1,n1⟩:=word j (by omega) (Or.inl c1) c2;obtain⟨B2,n2⟩:=word m (by omega) (Or.inr v1) v2;have vno:((au S m).k.toList == [36,99])=false:=by rw[g9 v1];decide
 rw[c1]at n1;rw[vno]at n2;unfold iY at n1 n2
 rcases Nat.lt_trichotomy j m with hlt | heq | hgt
 ·have hc:dM T S x m=true:=by
   unfold dM io;exact lI j hlt (by unfold nG;rw[mm.1,c1,c2];simp)
  rw[hc]at n2
  split at n2
  ·cases n2
  ·simp at n2
 ·rw[heq,vno]at c1;cases c1
 ·have hd:io T S ⟨#[36,118]⟩ x j false=true:=by
   unfold io;exact lI m hgt (by unfold nG;rw[mm.2,v1,v2];simp)
  have ht:iu T S x j=true:=by unfold iu;rw[hd];simp
  rw[ht]at n1
  split at n1
  ·cases n1
  ·simp at n1
theorem LE(p:Aa T T.length S f)(hall:∀q,q<T.length->a9 T S q=0)(n:Nat)(hn:n<=S.length):Kt T S n:=fun r hr hk=>by
 have P:=nE p hall r (by omega) (by unfold aE at hk;rcases Bool.or_eq_true _ _ ▸ hk with h | h <;> exact fY h (by decide));have hc:=Hz P (by rw[hk];rfl);have e0:(cm T S r).getD 0 ⟨#[]⟩=tS T (au S r).h:=(wg P).2;rw[e0]
 cases e:aI (fG T S (cD T S r) (cD T S r).length) (tS T (au S r).h)
 ·rfl
 ·exfalso
  unfold aI at e;obtain⟨y,hy,e2⟩:=List.any_eq_true.1 e;unfold fG at hy;obtain⟨i,hi,rfl⟩:=List.mem_map.1 hy;unfold vo at hi;obtain⟨i1,i2⟩:=List.mem_filter.1 hi;have i1:=List.mem_range.1 i1;have eg:(cD T S r).getD i 0=(cD T S r)[i]:=by rw[List.getD_eq_getElem?_getD,List.getElem?_eq_getElem i1];rfl
  unfold CD at i2;rw[eg]at i2 e2;have hj:=pZ T S r (cD T S r)[i] (List.getElem_mem i1);generalize (cD T S r)[i]=j at *;have Pj:=nE p hall j (by omega) (fY i2 (by decide));obtain⟨w1,w2⟩:=Ln Pj i2;have e3:cm T S j=bV T (au S j).h:=rfl;rw[e3,w2]at e2
  have e4:tS T ((au S j).h+1)=tS T (au S r).h:=by
   have:(tS T ((au S j).h+1)).toList=(tS T (au S r).h).toList:=by simpa using e2
   apply ByteArray.ext
   apply Array.toList_inj.1
   rw[<-ByteArray.toList_eq,<-ByteArray.toList_eq,this]
  rw[e4]at w1;exact xY p hall (by omega) (by omega) hc w1
end
theorem Jx(T:List Tk)(hT:T.length<=10000)(hall:∀q,q<T.length->a9 T (as T) q=0)(n:Nat)(hn:n<=(as T).length):mG T (as T) n:=by
 have p:=fL T;have hl:(as T).length<=T.length:=sB T T.length;obtain⟨ok,fo⟩:=AL T (by omega) hall;have h:mG T (as T) (as T).length:=⟨ok,by omega,hT,fun j hj hk=>rx (nE p hall j hj hk),fo⟩;exact h.mono hn
def Cm(S:List Sm)(a r:Nat):Prop:=r<a/\(aE (au S r).k||aH (au S r).k)=true
structure Kj(T:List Tk)(S:List Sm)(a i:Nat)(s:cO):Prop where
 nd:s.need<=10000
 ways:s.ref=-1∨(s.ref=-2/\s.back<i)∨∃r,Cm S a r/\s.ref=(r:Nat)/\s.need=gy T S (r:Nat)
def lB(T:List Tk)(S:List Sm)(a:Nat)(P:List cO):Prop:=∀i,i<P.length->Kj T S a i (bG P i)
section
variable {T:List Tk} {S:List Sm} {a:Nat}
theorem lB.snoc{P:List cO}{s:cO}(h:lB T S a P)(hs:Kj T S a P.length s):lB T S a (P++[s]):=fun i hi=>by
 rw[List.length_append,List.length_cons,List.length_nil]at hi
 by_cases e:i<P.length
 ·have e2:bG (P++[s]) i=bG P i:=by unfold bG;rw[List.getD_eq_getElem?_getD,List.getD_eq_getElem?_getD,List.getElem?_append_left e]
  rw[e2];exact h i e
 ·have e1:i=P.length:=by omega
  have e2:bG (P++[s]) i=s:=by unfold bG;rw[e1,List.getD_eq_getElem?_getD,List.getElem?_append_right (Nat.le_refl _),Nat.sub_self];rfl
  rw[e2,e1];exact hs
theorem lB.nil:lB T S a []:=fun i hi=>by simp at hi
theorem zm(ha:a<=10000){r:Nat}(hr:r<a):gy T S (r:Nat)<=10000:=by
 unfold gy
 split
 ·omega
 ·split
  ·have:=kU T S (r:Int).toNat
   rw[Int.toNat_natCast]at this ⊢;omega
  ·omega
theorem vW{x:ByteArray}{k:Nat}(h:dV T S a x=(k:Int)):Cm S a k:=by
 have hw:=nL T S a x;rw[h]at hw
 rcases hw with e | ⟨q,hq,e⟩
 ·omega
 ·have e1:k=q:=by omega
  subst e1;refine⟨hq,?_⟩;unfold dV at h
  split at h
  ·omega
  ·split at h
   ·unfold bn at h
    cases hf:(List.range a).find? (oF T S x) with
    | none=>rw[hf]at h;simp at h
    | some j =>
     rw[hf]at h;have ej:j=k:=by have h:(j:Int)=(k:Int):=h;omega
     have hp:=List.find?_some hf;rw[ej]at hp;unfold oF at hp;rw[Bool.and_eq_true]at hp
     cases ha:(aE (au S k).k||aH (au S k).k)
     ·exfalso
      have:cg T (au S k)=⟨#[]⟩:=by unfold cg;rw[ha,if_neg (by simp)]
      rw[this]at hp;exact absurd hp.1 (by decide +kernel)
     ·rfl
   ·omega
theorem GV(ha:a<=10000)(zt:Nat)(n:Nat):∀i P,lB T S a P->lB T S a (lL T S a zt n i P).st/\((lL T S a zt n i P).why=0->0<(lL T S a zt n i P).st.length)/\(lL T S a zt n i P).st.length<=P.length+n:=by
 induction n with
 | zero =>
  intro i P hP;rw[lL]
  split
  ·exact⟨lB.nil,fun h=>(by cases h),Nat.zero_le _⟩
  ·exact⟨hP,fun _=>(by simp only;omega),(by simp)⟩
 | succ n ih =>
  intro i P hP;rw[lL]
  split
  ·obtain⟨h1,h2,h3⟩:=ih (i+1) _ (hP.snoc (s:=⟨-1,0,0,(T.getD i ic).file,(T.getD i ic).line,(T.getD i ic).col⟩) ⟨by show 0<=10000;omega,Or.inl rfl⟩)
   exact⟨h1,h2,by simp at h3 ⊢;omega⟩
  ·split
   ·exact⟨lB.nil,fun h=>(by cases h),Nat.zero_le _⟩
   ·next h1 h2 =>
    obtain⟨k,hk⟩:∃k:Nat,dV T S a (tS T i)=k:=⟨(dV T S a (tS T i)).toNat,by omega⟩
    have hr:=vW hk;rw[hk];obtain⟨h1,h2,h3⟩:=ih (i+1) _ (hP.snoc (s:=⟨(k:Int),0,gy T S (k:Int),(T.getD i ic).file,(T.getD i ic).line,(T.getD i ic).col⟩) ⟨zm ha hr.1,Or.inr (Or.inr ⟨k,hr,rfl,rfl⟩)⟩);exact⟨h1,h2,by simp at h3 ⊢;omega⟩
theorem Gq(ha:a<=10000)(refs:List Nat)(hrefs:∀r∈refs,Cm S a r)(en:Lt)(L:List Lt):∀P tags num fr,lB T S a P->(∀t∈tags,t<P.length)->(fr=true->0<P.length) ->
  lB T S a (lG T S refs en L P tags num fr).st/\((lG T S refs en L P tags num fr).why=0->0<(lG T S refs en L P tags num fr).st.length)/\(lG T S refs en L P tags num fr).st.length<=P.length+L.length:=by
 induction L with
 | nil =>
  intro P tags num fr hP _ _;rw[lG]
  split
  ·exact⟨lB.nil,fun h=>(by cases h),Nat.zero_le _⟩
  ·split
   ·exact⟨lB.nil,fun h=>(by cases h),Nat.zero_le _⟩
   ·exact⟨hP,fun _=>(by simp only;omega),(by simp)⟩
 | cons l L ih =>
  intro P tags num fr hP hT hF;rw[lG]
  split
  ·obtain⟨h1,h2,h3⟩:=ih P tags (num++Ad l.c) false hP hT (fun h=>by cases h)
   exact⟨h1,h2,by simp at h3 ⊢;omega⟩
  ·split
   ·split
    ·exact⟨lB.nil,fun h=>(by cases h),Nat.zero_le _⟩
    ·next hz =>
     have hle:=vS (num++Ad l.c) (refs.length+tags.length);generalize gJ (num++Ad l.c) (refs.length+tags.length)=m at *
     have hs:Kj T S a P.length (oZ T S refs tags m l):=by
      unfold oZ
      split
      ·next hm =>
       have hq:m-1<refs.length:=by omega
       have e:refs.getD (m-1) 0=refs[m-1]:=by rw[List.getD_eq_getElem?_getD,List.getElem?_eq_getElem hq];rfl
       have hr:=hrefs refs[m-1] (List.getElem_mem hq);rw[e];exact⟨zm ha hr.1,Or.inr (Or.inr ⟨_,hr,rfl,rfl⟩)⟩
      ·next hm =>
       have hq:m-refs.length-1<tags.length:=by omega
       have e:tags.getD (m-refs.length-1) 0=tags[m-refs.length-1]:=by rw[List.getD_eq_getElem?_getD,List.getElem?_eq_getElem hq];rfl
       rw[e];exact⟨by show 0<=10000;omega,Or.inr (Or.inl ⟨rfl,hT _ (List.getElem_mem hq)⟩)⟩
     obtain⟨h1,h2,h3⟩:=ih _ tags ⟨#[]⟩ true (hP.snoc hs) (fun t ht=>by rw[List.length_append];have:=hT t ht;omega) (fun _=>by simp);exact⟨h1,h2,by simp at h3 ⊢;omega⟩
   ·split
    ·next hz =>
     have hp:=hF hz.2
     obtain⟨h1,h2,h3⟩:=ih P (tags++[P.length-1]) num false hP (fun t ht=>by
      rcases List.mem_append.1 ht with h | h
      ·exact hT t h
      ·rw[List.mem_singleton.1 h];omega) (fun h=>by cases h)
     exact⟨h1,h2,by simp at h3 ⊢;omega⟩
    ·split
     ·obtain⟨h1,h2,h3⟩:=ih _ tags num false (hP.snoc (s:=⟨-1,0,0,l.file,l.line,l.col⟩) ⟨by show 0<=10000;omega,Or.inl rfl⟩) (fun t ht=>by rw[List.length_append];have:=hT t ht;omega) (fun h=>by cases h)
      exact⟨h1,h2,by simp at h3 ⊢;omega⟩
     ·exact⟨lB.nil,fun h=>(by cases h),Nat.zero_le _⟩
theorem JQ(ha:a<=10000)(hO:eB T)(zt:Nat)(n:Nat):∀i refs,(∀r∈refs,Cm S a r)->lB T S a (si T S a zt n i refs).st/\((si T S a zt n i refs).why=0->0<(si T S a zt n i refs).st.length)/\(si T S a zt n i refs).st.length<=1024*T.length:=by
 induction n with
 | zero=>intro i refs _;rw[si];exact⟨lB.nil,fun h=>(by cases h),Nat.zero_le _⟩
 | succ n ih =>
  intro i refs hr;rw[si]
  split
  ·obtain⟨h1,h2,h3⟩:=Gq (T:=T) ha refs hr (Bq (T.getD zt ic)) (dU T (i+1) zt) [] [] ⟨#[]⟩ false lB.nil (fun t ht=>by cases ht) (fun h=>by cases h)
   have:=uF T hO (i+1) zt;rw[List.length_nil,Nat.zero_add]at h3;exact⟨h1,h2,by unfold i7;omega⟩
  ·split
   ·exact⟨lB.nil,fun h=>(by cases h),Nat.zero_le _⟩
   ·split
    ·exact⟨lB.nil,fun h=>(by cases h),Nat.zero_le _⟩
    ·next h1 h2 h3 =>
     obtain⟨k,hk⟩:∃k:Nat,dV T S a (tS T i)=k:=⟨(dV T S a (tS T i)).toNat,by omega⟩
     refine ih (i+1) _ (fun r hr2=>?_)
     rcases List.mem_append.1 hr2 with h | h
     ·exact hr r h
     ·rw[List.mem_singleton.1 h,hk,Int.toNat_natCast];exact vW hk
theorem uh(ha:a<=10000)(hO:eB T)(hT:T.length<=10000)(e zt:Nat)(hz:zt<=T.length):lB T S a (eZ T S a e zt).st/\((eZ T S a e zt).why=0->0<(eZ T S a e zt).st.length)/\(eZ T S a e zt).st.length<=100000000:=by
 unfold eZ
 split
 ·unfold iQ
  obtain⟨h1,h2,h3⟩:=JQ (T:=T) (S:=S) ha hO zt (zt-(e+2)) (e+2) (cD T S a) (fun r hr=>by
   obtain⟨k1,-,k3⟩:=v9 T S a r hr;exact⟨k1,by rw[k3];simp⟩)
  exact⟨h1,h2,by omega⟩
 ·obtain⟨h1,h2,h3⟩:=GV (T:=T) (S:=S) ha zt (zt-(e+1)) (e+1) [] lB.nil
  exact⟨h1,h2,by simp at h3;omega⟩
theorem EI(ha:a<=10000)(hO:eB T)(hT:T.length<=10000)(e zt:Nat)(hz:zt<=T.length):Hg T S a (eZ T S a e zt):=by
 obtain⟨k1,k2,k3⟩:=uh (T:=T) (S:=S) ha hO hT e zt hz;refine⟨k3,fun i=>?_,fun h=>⟨k2 h,fun i hi hne=>⟨?_⟩⟩⟩
 ·by_cases hi:i<(eZ T S a e zt).st.length
  ·have:=(k1 i hi).nd;omega
  ·have:bG (eZ T S a e zt).st i=Lg:=by unfold bG;rw[List.getD_eq_getElem?_getD,List.getElem?_eq_none (by omega)];rfl
   rw[this];show 0<=100000;omega
 ·rcases(k1 i hi).ways with h | ⟨h,hb⟩ | ⟨r,hr,h1,h2⟩
  ·exact absurd h hne
  ·exact Or.inl ⟨h,hb⟩
  ·refine Or.inr ⟨r,hr.1,h1,hr.2,fun hk=>?_⟩
   rw[h2];unfold gy;rw[if_neg (by omega),Int.toNat_natCast,if_pos hk]
end
def vj(t:Tk):Prop:=t.s.size<=1024/\0<=t.col/\t.col<=10000
theorem wM:eB []:=fun t ht=>by cases ht
theorem kN{L M:List Tk}(h:eB L)(k:eB M):eB (L++M):=fun t ht=>by
 rcases List.mem_append.1 ht with e | e
 ·exact h t e
 ·exact k t e
theorem j8{t:Tk}(h:vj t):eB [t]:=fun u hu=>by rw[List.mem_singleton.1 hu];exact h
theorem pW{t:Tk}(r:Int)(h:vj t):vj (oN t r):=⟨by show(0:Nat)<=1024;omega,h.2⟩
theorem xa(nm d s:ByteArray)(r:Int)(k:Nat)(hs:s.size<=1024)(hk:k<=1024):vj (kL nm d s r k):=by
 have:=xL d k;exact⟨hs,by show 0<=aW d k;omega,by show aW d k<=10000;omega⟩
theorem yH(nm d:ByteArray)(a z:Nat)(L:List Tk)(hL:eB L)(haz:a<=z)(hz:z<=1024):eB (g7 nm d a z L):=by
 unfold g7
 split
 ·exact hL
 ·exact kN hL (j8 (xa nm d _ 0 a (by rw[ByteArray.size_extract];omega) (by omega)))
theorem zd(nm d:ByteArray)(i:Nat)(hi:i<=1024):eB (h9 nm d i):=by
 induction i with
 | zero=>exact wM
 | succ i ih =>
  rw[h9]
  split
  ·exact yH nm d _ i _ (ih (by omega)) (mu d i) (by omega)
  ·exact ih (by omega)
theorem Fj(nm d:ByteArray)(hd:d.size<=1024):eB (fR nm d):=by
 unfold fR
 split
 ·next i h =>
  have hi:i<d.size:=List.mem_range.1 (List.mem_of_find?_eq_some h);exact kN (zd nm d i (by omega)) (j8 (xa nm d _ 1 i (by show(0:Nat)<=1024;omega) (by omega)))
 ·exact kN (yH nm d _ _ _ (zd nm d _ hd) (mu d _) hd) (j8 (xa nm d _ 0 _ (by show(0:Nat)<=1024;omega) hd))
theorem tO{t:Tk}{L:List Tk}(h:vj t)(k:eB L):eB (t :: L):=fun u hu=>by
 rcases List.mem_cons.1 hu with e | e
 ·rw[e];exact h
 ·exact k u e
theorem Hb(b:Bool)(L:List Tk)(h:eB L):eB (bJ b L):=by
 induction L generalizing b with
 | nil=>cases b <;> exact wM
 | cons t L ih =>
  have ht:vj t:=h t (List.mem_cons_self ..);have hL:eB L:=fun u hu=>h u (List.mem_cons_of_mem _ hu)
  have hz:∀r,vj ⟨⟨#[]⟩,r,t.file,t.line,t.col⟩:=fun r=>⟨by show(0:Nat)<=1024;omega,ht.2⟩
  cases b
  ·rw[bJ]
   split
   ·exact ih true hL
   ·exact tO ht (ih false hL)
  ·rw[bJ]
   split
   ·exact tO ht (ih true hL)
   ·split
    ·exact ih false hL
    ·split
     ·exact tO (hz 3) (ih true hL)
     ·split
      ·exact j8 (hz 2)
      ·exact ih true hL
theorem ET(rec:Nat->List Bool->List Tk->List Tk×List Bool)(hrec:∀k sn out,eB out->eB (rec k sn out).1)(fs:Fs)(n:Nat):∀L,L.length<=n->eB L->∀sn out,eB out->eB (b9 rec fs L sn out).1:=by
 induction n with
 | zero =>
  intro L hl _ sn out ho
  cases L with
  | nil=>rw[b9];exact ho
  | cons _ _=>simp at hl
 | succ n ih =>
  intro L hl hL sn out ho
  cases L with
  | nil=>rw[b9];exact ho
  | cons t r =>
   have ht:vj t:=hL t (List.mem_cons_self ..);have hr:eB r:=fun u hu=>hL u (List.mem_cons_of_mem _ hu)
   have hl1:r.length<=n:=by simpa using hl
   rw[b9.eq_def];simp only
   split
   ·split
    ·exact ho
    ·exact kN ho (j8 (pW 7 ht))
   ·split
    ·exact ih r hl1 hr sn _ (kN ho (j8 ht))
    ·split
     ·exact kN ho (j8 (pW 4 ht))
     ·cases r with
      | nil=>exact ho
      | cons a r =>
       have ha:vj a:=hr a (List.mem_cons_self ..)
       cases r with
       | nil=>exact kN ho (j8 (pW _ ha))
       | cons b r =>
        have hb:vj b:=hr b (List.mem_cons_of_mem _ (List.mem_cons_self ..));have hr2:eB r:=fun u hu=>hr u (List.mem_cons_of_mem _ (List.mem_cons_of_mem _ hu))
        have hl2:r.length<=n:=by simp at hl1;omega
        simp only
        split
        ·exact kN ho (j8 (pW _ ha))
        ·split
         ·exact kN ho (j8 (pW _ hb))
         ·split
          ·exact ih r hl2 hr2 sn out ho
          ·split
           ·exact hrec _ sn out ho
           ·exact ih r hl2 hr2 _ _ (hrec _ sn out ho)
theorem EV(fs:Fs)(hfd:∀k,(aj fs k).size<=1024)(n:Nat):∀k sn out,eB out->eB (dx fs n k sn out).1:=by
 induction n with
 | zero=>intro k sn out ho;exact ho
 | succ n ih =>
  intro k sn out ho;rw[dx];exact ET _ ih fs _ _ (Nat.le_refl _) (Hb _ _ (Fj _ _ (hfd k))) _ _ ho
theorem FO(fs:Fs)(k:Nat)(hfd:∀k,(aj fs k).size<=1024):eB (da fs k).1:=by
 have h:eB (np fs k):=EV fs hfd _ _ _ _ wM;unfold da
 split
 ·exact fun t ht=>h t (List.dropLast_subset _ ht)
 ·exact h
def xk(T:List Tk)(S:List Sm)(j:Nat):Nat:=(au S j).h+(bV T (au S j).h).length
theorem Lo(p:ByteArray->Bool)(L:List ByteArray)(h:∃x∈L,p x=false):(L.takeWhile p).length<L.length/\p (L.getD (L.takeWhile p).length ⟨#[]⟩)=false/\∀q,q<(L.takeWhile p).length->p (L.getD q ⟨#[]⟩)=true:=by
 induction L with
 | nil=>obtain⟨x,hx,-⟩:=h;cases hx
 | cons a L ih =>
  cases ha:p a
  ·rw[List.takeWhile_cons,if_neg (by rw[ha];simp)]
   exact⟨by simp,ha,fun q hq=>by simp at hq⟩
  ·rw[List.takeWhile_cons,if_pos ha]
   obtain⟨h1,h2,h3⟩:=ih (by
    obtain⟨x,hx,hp⟩:=h
    rcases List.mem_cons.1 hx with e | e
    ·rw[e,ha]at hp;cases hp
    ·exact⟨x,e,hp⟩)
   refine⟨by simp;omega,h2,fun q hq=>?_⟩
   cases q with
   | zero=>exact ha
   | succ q=>exact h3 q (by simpa using hq)
theorem Kz{T:List Tk}{S:List Sm}{j:Nat}(P:tZ T S j)(hk:((au S j).k.toList == [36,112])=true) :
  (au S j).h<=xk T S j/\((tS T (xk T S j)).toList == [36,61])=true/\(∀q,(au S j).h<=q->q<xk T S j->((tS T q).toList == [36,61])=false)/\xk T S j<(au S j).z-1:=by
 have hz:=P.zt;have hz0:=P.pos;have hle:=P.le;have hc:=P.cl;have hl:=nB T (au S j).h ((au S j).z-1) hle (by omega)
 have hB:aI (eD T (au S j).h ((au S j).z-1)) ⟨#[36,61]⟩=true:=by
  unfold gd at hc
  split at hc
  ·cases hc
  ·split at hc
   ·cases hc
   ·cases e:aI (eD T (au S j).h ((au S j).z-1)) ⟨#[36,61]⟩
    ·rw[hk,e,if_pos (by decide)]at hc;cases hc
    ·rfl
 obtain⟨y,hy,ey⟩:=List.any_eq_true.1 hB
 have hex:∃x∈eD T (au S j).h ((au S j).z-1),jF x=false:=by
  refine⟨y,hy,?_⟩;unfold jF;have e:y.toList=(⟨#[36,61]⟩:ByteArray).toList:=by simpa using ey
  rw[e];decide +kernel
 obtain⟨h1,h2,h3⟩:=Lo jF _ hex;rw[<-tF P]at h1 h2 h3;rw[hl]at h1;unfold xk;refine⟨by omega,?_,fun q q1 q2=>?_,by omega⟩
 ·rw[qo T _ _ _ (by omega) (by omega)]at h2
  unfold jF at h2;simpa using h2
 ·have:=h3 (q-(au S j).h) (by omega)
  rw[qo T _ _ _ (by omega) (by omega),show(au S j).h+(q-(au S j).h)=q by omega]at this;unfold jF at this;simpa using this
end Go.Proofs.YtpddjjabfbfifaaGreat

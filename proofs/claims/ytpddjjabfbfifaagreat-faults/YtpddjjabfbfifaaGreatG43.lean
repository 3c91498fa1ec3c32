import Derived.Test.YtpddjjabfbfifaaGreatG41
import Derived.Test.YtpddjjabfbfifaaGreatG42
namespace Go.Proofs.YtpddjjabfbfifaaGreat
open Go.RowKit
set_option maxHeartbeats 40000000
theorem BS(T:List Tk)(hT:T.length<=100000)(hall:∀j,j<T.length->a9 T (as T) j=0):jh T (as T) (as T).length/\kJ T (as T) (as T).length:=by
 have p:=fK T;have hl:(as T).length<=T.length:=sK T T.length;generalize as T=S at *;have hw:=fun j (hj:j<S.length)=>zH p j hj (fun q _ h2=>hall q (by have:=(p.s j hj).2;omega))
 refine⟨⟨Nat.le_refl _,by omega,hT,fun j hj=>(hw j hj).1,fun j hj=>(hw j hj).2.1,fun j hj=>?_⟩,fun j hj=>(hw j hj).2.2⟩;have:=(p.s j hj).1.lt;have:=(p.s j hj).2;omega
structure sq(T:List Tk)(S:List Sm)(d:Db):Prop where
 con:d.constants=(List.range S.length).flatMap (Dr T S)
 var:∀x,aI d.variables x=aI ((List.range S.length).flatMap (yQ T S)) x
 act:qe (yQ T S) S d.active (d.blocks.map (·.1))
 typ:qe (E7 T S) S d.typed (d.blocks.map (·.2))
def jJ(T:List Tk)(S:List Sm):List ByteArray:=(List.range S.length).flatMap (Im T S)
inductive KeyK:List UInt8->Int->Prop
 | c:KeyK [36,99] 7
 | v:KeyK [36,118] 8
 | d:KeyK [36,100] 1
 | f:KeyK [36,102] 2
 | e:KeyK [36,101] 3
 | a:KeyK [36,97] 4
 | p:KeyK [36,112] 5
def jE(y:ByteArray):Bool:=!(y.toList == [36,61])
inductive OpE (T:List Tk) (d:Db):Prop
 | none:gi T=T.length->d.kind=0->d.symbols=[]->d.inProof=false->d.labels=jJ T (as T)->OpE T d
 | lab:gi T+1=T.length->d.kind=6->d.symbols=[]->d.inProof=false->d.labels=jJ T (as T)++[tS T (gi T)]->((tS T (gi T)).toList == [])=false->fT (tS T (gi T)) ⟨#[36]⟩=false->OpE T d
 | body (key:ByteArray) (head:Nat) (B:List ByteArray):dY T (gi T)=(key,head)->gi T<head->head<=T.length->KeyK key.toList d.kind->eE T head T.length=B->d.inProof=aI B ⟨#[36,61]⟩->d.symbols=B.takeWhile jE->(d.inProof=true->d.kind=5/\d.symbols≠[]) ->
   d.labels=jJ T (as T)++(if(aE key||aH key)=true then [tS T (gi T)] else [])->((aE key||aH key)=true->((tS T (gi T)).toList == [])=false)->OpE T d
theorem qe.congr{F F':Nat->List ByteArray}{S:List Sm}{L:List ByteArray}{B:List Nat}(h:qe F S L B)(hF:∀j,j<S.length->F' j=F j):qe F' S L B :=
 ⟨by rw[dj (G:=F) (fun j hj=>hF j (gg hj))];exact h.l,h.b,fun i hi=>by rw[dj (G:=F) (fun j hj=>hF j (gg (List.mem_filter.1 hj).1))];exact h.o i hi⟩
section
variable {T U:List Tk} {S M:List Sm}
theorem mN(ok:jh T S S.length)(j:Nat)(hj:j<S.length):yQ (T++U) (S++M) j=yQ T S j:=by
 unfold yQ;rw[kt S M j hj]
 split
 ·next h=>rw[tn T U _ (ok.v j hj h)]
 ·rfl
theorem sG(ok:jh T S S.length)(j:Nat)(hj:j<S.length):Dr (T++U) (S++M) j=Dr T S j:=by
 unfold Dr;rw[kt S M j hj]
 split
 ·next h=>rw[tn T U _ (ok.c j hj h)]
 ·rfl
theorem sx(hf:kJ T S S.length)(j:Nat)(hj:j<S.length):E7 (T++U) (S++M) j=E7 T S j:=by
 unfold E7;rw[kt S M j hj]
 split
 ·next h=>rw[gK T U _ (hf j hj h)]
 ·rfl
theorem C2(ok:jh T S S.length)(j:Nat)(hj:j<S.length):Im (T++U) (S++M) j=Im T S j:=by
 unfold Im;rw[kt S M j hj,vN _ (ok.a j hj)]
end
theorem mL{F F':Nat->List ByteArray}{n:Nat}(h:∀j,j<n->F' j=F j):(List.range n).flatMap F'=(List.range n).flatMap F:=dj (fun j hj=>h j (List.mem_range.1 hj))
theorem ee{F F':Nat->List ByteArray}{n:Nat}(h:∀j,j<n->F' j=F j):(List.range (n+1)).flatMap F'=(List.range n).flatMap F++F' n:=by
 rw[List.range_succ,List.flatMap_append,mL h];simp
theorem n8{T U:List Tk}{S:List Sm}(ok:jh T S S.length):jJ (T++U) S=jJ T S:=by
 unfold jJ;exact mL (fun j hj=>by have:=C2 (U:=U) (M:=[]) ok j hj;rw[List.append_nil]at this;exact this)
theorem ri{T U:List Tk}{S:List Sm}(s:Sm)(ok:jh T S S.length):jJ (T++U) (S++[s])=jJ T S++Im (T++U) (S++[s]) S.length:=by
 unfold jJ;rw[eC];exact ee (fun j hj=>C2 ok j hj)
theorem sq.same{T U:List Tk}{S:List Sm}{d d':Db}(h:sq T S d)(ok:jh T S S.length)(hf:kJ T S S.length)(e1:d'.constants=d.constants)(e2:d'.variables=d.variables)(e3:d'.active=d.active)(e4:d'.typed=d.typed)(e5:d'.blocks=d.blocks):sq (T++U) S d':=by
 have hv:∀j,j<S.length->yQ (T++U) S j=yQ T S j:=fun j hj=>by have:=mN (U:=U) (M:=[]) ok j hj;rw[List.append_nil]at this;exact this
 have hc:∀j,j<S.length->Dr (T++U) S j=Dr T S j:=fun j hj=>by have:=sG (U:=U) (M:=[]) ok j hj;rw[List.append_nil]at this;exact this
 have hg:∀j,j<S.length->E7 (T++U) S j=E7 T S j:=fun j hj=>by have:=sx (U:=U) (M:=[]) hf j hj;rw[List.append_nil]at this;exact this
 exact⟨by rw[e1,mL hc];exact h.con,fun x=>by rw[e2,mL hv];exact h.var x,by rw[e3,e5];exact h.act.congr hv,by rw[e4,e5];exact h.typ.congr hg⟩
theorem mt(S:List Sm)(s:Sm):au (S++[s]) S.length=s:=rx S s
theorem sq.close{T U:List Tk}{S:List Sm}{d d':Db}(h:sq T S d)(ok:jh T S S.length)(hf:kJ T S S.length)(s:Sm)(hs:∀o,aY o s.k=o)
  (e1:d'.constants=d.constants++Dr (T++U) (S++[s]) S.length) (e2:∀x,aI d'.variables x=(aI d.variables x||aI (yQ (T++U) (S++[s]) S.length) x)) (e3:d'.active=d.active++yQ (T++U) (S++[s]) S.length) (e4:d'.typed=d.typed++E7 (T++U) (S++[s]) S.length) (e5:d'.blocks=d.blocks):sq (T++U) (S++[s]) d' :=
 ⟨by rw[eC,ee (fun j hj=>sG ok j hj),<-h.con];exact e1,fun x=>by rw[eC,ee (fun j hj=>mN ok j hj),uN,<-h.var];exact e2 x,
  by rw[e3,e5];exact h.act.norm s hs (fun j hj=>mN ok j hj),by rw[e4,e5];exact h.typ.norm s hs (fun j hj=>sx hf j hj)⟩
theorem zd(T:List Tk)(t:Tk)(hT:T.length<=100000)(hall:∀j,j<T.length->a9 T (as T) j=0):a9 (T++[t]) (as (T++[t])) T.length =
  if T.length=gi T then cZ T (as T) t.s (as T).length
  else if T.length<(dY (T++[t]) (gi T)).2 then(if(aE t.s||aH t.s)=true then 0 else 14)
  else kB T (as T) (dY (T++[t]) (gi T)).1 t.s (as T).length (eE T (dY (T++[t]) (gi T)).2 T.length):=by
 obtain⟨ok,hf⟩:=BS T hT hall;obtain⟨M,hM,hz⟩:=vP T [t];have p:=fK T;rw[hM,Bt];generalize as T=S at *
 have hc:g9 (S++M) T.length=S.length:=by
  unfold g9;rw[CK T.length S M hz];exact Gv _ S S.length (fun q hq=>⟨au S q,C3 S q hq,(p.s q hq).2⟩) (fun s hs=>by rw[List.getElem?_eq_none (Nat.le_refl _)]at hs;cases hs)
 unfold a9;rw[hc,ym S M _ (Nat.le_refl _),qh]
 by_cases e:T.length=ji S S.length
 ·rw[if_pos e,if_pos e,vY _ ok]
 ·rw[if_neg e,if_neg e]
  split
  ·rfl
  ·next hh=>rw[yP _ _ _ ok hf,CC T [t] _ _ (by omega) (Nat.le_refl _)]
theorem zv{T:List Tk}{S:List Sm}{d:Db}(h:sq T S d)(hl:d.labels=jJ T S)(x:ByteArray):iq T S x S.length=dn d x:=by
 unfold iq dn;rw[pM,qW,Bf,<-h.con,<-h.var,hl,Bool.or_assoc];rfl
theorem DM{T:List Tk}{S:List Sm}{d:Db}(h:sq T S d)(hl:d.labels=jJ T S)(x:ByteArray):(decide (0<=bn T S x S.length)||(dP T S x S.length||jF T S x S.length))=dC d x:=by
 unfold dC;rw[pM,qW,Cl,<-h.con,<-h.act.l,hl,Bool.or_assoc];rfl
theorem GQ{T:List Tk}{S:List Sm}{d:Db}(h:sq T S d):bF S S.length=(d.blocks.length:Int):=by
 have:=h.act.b;rw[List.length_map]at this;exact this.symm
theorem tw{l:List UInt8}{k:ByteArray}(h:k.toList=l)(o:Int):aY o k=if(l == [36,125])=true then(if(l == [36,123])=true then o+1 else o)-1 else(if(l == [36,123])=true then o+1 else o):=by
 unfold aY;rw[h]
theorem kI{l:List UInt8}{k:ByteArray}(h:k.toList=l):aE k=((l == [36,97])||(l == [36,112]))/\aH k=((l == [36,102])||(l == [36,101]))/\bY k=((l == [36,46])||(l == [36,123])||(l == [36,125])):=by
 unfold aE aH bY;rw[h];exact⟨rfl,rfl,rfl⟩
theorem BH{l:List UInt8}{k:ByteArray}(h:k.toList=l):fT k ⟨#[36]⟩=fT ⟨l.toArray⟩ ⟨#[36]⟩:=by
 rw[mX (x:=k) (l:=l) (by rw[h];simp)]
theorem KeyK.dep{k:ByteArray}{n:Int}(h:KeyK k.toList n):(∀o,aY o k=o)/\fT k ⟨#[36]⟩=true/\bY k=false:=by
 generalize hl:k.toList=l at h;have h1:=fun o=>tw hl o
 have h2:=BH hl;have h3:=(kI hl).2.2
 cases h <;> exact⟨fun o=>h1 o,h2.trans (by decide +kernel),h3⟩
section
variable {T:List Tk} {t:Tk} {d:Db}
theorem yU(hf:gi T=T.length)(hd:fT t.s ⟨#[36]⟩=true):dY (T++[t]) (gi T)=(t.s,T.length+1):=by
 unfold dY;rw[hf,qh,hd];simp
theorem ux{key:ByteArray}{head:Nat}{n:Int}(hk:dY T (gi T)=(key,head))(hlt:gi T<head)(hh:head<=T.length)(hK:KeyK key.toList n):dY (T++[t]) (gi T)=(key,head):=by
 rw[<-hk]
 by_cases h:gi T+1<T.length
 ·exact xM T [t] _ h
 ·have e:dY T (gi T)=(tS T (gi T),gi T+1):=by
   unfold dY;rw[if_pos (by simp;right;omega)]
  rw[hk]at e;have e1:key=tS T (gi T):=congrArg Prod.fst e;have hs:=hK.dep.2.1;rw[e1]at hs;unfold dY;rw[gK T [t] _ (by omega),hs];simp
theorem mR(T:List Tk)(h:Nat):eE T h T.length=(T.drop h).map (·.s):=by
 unfold eE;rw[List.take_of_length_le (by rw[List.length_drop];exact Nat.le_refl _)]
theorem Gc(t:Tk)(h:Nat)(hh:h<=T.length):eE (T++[t]) h (T++[t]).length=eE T h T.length++[t.s]:=by
 rw[mR,mR,List.drop_append_of_le_length hh];simp
theorem zW(L:List Tk)(t:Tk)(hL:∀u∈L,(u.s.toList == [36,46])=false)(ht:(t.s.toList == [36,46])=true):li (L++[t])=(L.map (·.s)).takeWhile jE:=by
 induction L with
 | nil=>rw[List.nil_append,li,if_pos (qj ht)];rfl
 | cons a L ih =>
  have h1:=hL a (by simp);rw[List.cons_append,li,List.map_cons]
  cases h2:(a.s.toList == [36,61])
  ·rw[if_neg (by unfold lL;rw[h1,h2];simp),List.takeWhile_cons_of_pos (by unfold jE;rw[h2];rfl),ih (fun u hu=>hL u (by simp[hu]))]
  ·rw[if_pos (by unfold lL;rw[h2];rfl),List.takeWhile_cons_of_neg (by unfold jE;rw[h2];simp)]
theorem Dh(T:List Tk)(h:Nat)(hh:gi T<=h):∀u∈T.drop h,bY u.s=false:=by
 intro u hu;obtain⟨q,hq,e⟩:=List.getElem_of_mem hu;rw[List.length_drop]at hq;have:=(fK T).n (h+q) (by unfold gi at hh;omega) (by omega);rw[List.getElem_drop]at e;unfold tS at this;rw[List.getD_eq_getElem?_getD,List.getElem?_eq_getElem (by omega)]at this;rw[<-e];exact this
theorem GX(B:List ByteArray)(h:aI B ⟨#[36,61]⟩=false):∀y∈B,jE y=true:=by
 intro y hy;unfold aI at h;rw[List.any_eq_false]at h;have:=h y hy;have e:(⟨#[36,61]⟩:ByteArray).toList=[36,61]:=by decide +kernel
 rw[e]at this;unfold jE;simpa using this
theorem Ef(B:List ByteArray)(h:∀y∈B,jE y=true):B.takeWhile jE=B:=by
 induction B with
 | nil=>rfl
 | cons a B ih=>rw[List.takeWhile_cons_of_pos (h a (by simp)),ih (fun y hy=>h y (by simp[hy]))]
theorem sC(B:List ByteArray)(h:aI B ⟨#[36,61]⟩=false):B.takeWhile jE=B:=Ef B (GX B h)
theorem FP(B:List ByteArray)(y:ByteArray)(h:aI B ⟨#[36,61]⟩=true):(B++[y]).takeWhile jE=B.takeWhile jE:=by
 have e:(⟨#[36,61]⟩:ByteArray).toList=[36,61]:=by decide +kernel
 induction B with
 | nil=>cases h
 | cons a B ih =>
  rw[List.cons_append]
  cases h2:(a.toList == [36,61])
  ·have h3:aI B ⟨#[36,61]⟩=true:=by
    unfold aI at h ⊢;rw[List.any_cons,e,h2,Bool.false_or]at h;rw[e];exact h
   rw[List.takeWhile_cons_of_pos (by unfold jE;rw[h2];rfl),List.takeWhile_cons_of_pos (by unfold jE;rw[h2];rfl),ih h3]
  ·rw[List.takeWhile_cons_of_neg (by unfold jE;rw[h2];simp),List.takeWhile_cons_of_neg (by unfold jE;rw[h2];simp)]
end
theorem gQ{l m:List UInt8}{x:ByteArray}(h:(x.toList==l)=true):(x.toList==m)=(l==m):=by
 have:x.toList=l:=by simpa using h
 rw[this]
section
variable {T:List Tk} {S:List Sm} {f:Nat}
structure ue(T:List Tk)(S:List Sm)(j:Nat):Prop where
 le:(au S j).h<=(au S j).z-1
 zt:(au S j).z<=T.length
 pos:0<(au S j).z
 dot:((tS T ((au S j).z-1)).toList == [36,46])=true
 cl:fU (au S j).k (eE T (au S j).h ((au S j).z-1))=0
 w:∀q,(au S j).h<=q->q<(au S j).z-1->kB T S (au S j).k (tS T q) j (eE T (au S j).h q)=0/\bY (tS T q)=false
theorem nR(p:Ac T T.length S f)(hall:∀q,q<T.length->a9 T S q=0)(j:Nat)(h:j<S.length)(hk:bY (au S j).k=false):ue T S j:=by
 have hW:=CT p j h;obtain⟨P,hzT⟩:=p.s j h
 have core:(au S j).h<=(au S j).z-1->(au S j).a<(au S j).h->ue T S j:=fun hle hah=>by
  have hlt:=P.lt;have L0:=hall ((au S j).z-1) (by omega);rw[hW ((au S j).z-1) (by omega) (by omega),if_neg (by omega),if_neg (by omega)]at L0;obtain⟨d1,d2⟩:=tQ P.e L0;refine⟨hle,hzT,by omega,d1,d2,fun q h1 h2=>?_⟩;have Q:=hall q (by omega);rw[hW q (by omega) (by omega),if_neg (by omega),if_neg (by omega)]at Q;exact⟨Q,P.n q (by omega) h2⟩
 have ky:=P.k;have lt:=P.lt;unfold dY at ky
 by_cases hA:(fT (tS T (au S j).a) ⟨#[36]⟩||decide (T.length<=(au S j).a+1))=true
 ·rw[if_pos hA]at ky
  have e1:(au S j).k=tS T (au S j).a:=congrArg Prod.fst ky;have e2:(au S j).h=(au S j).a+1:=congrArg Prod.snd ky;refine core ?_ (by omega)
  by_cases hz:(au S j).z-1=(au S j).a
  ·have:=P.e
   rw[hz,<-e1,hk]at this
   cases this
  ·omega
 ·rw[if_neg hA]at ky
  have e1:(au S j).k=tS T ((au S j).a+1):=congrArg Prod.fst ky;have e2:(au S j).h=(au S j).a+2:=congrArg Prod.snd ky
  have hno:fT (tS T (au S j).a) ⟨#[36]⟩=false:=by
   cases e:fT (tS T (au S j).a) ⟨#[36]⟩
   ·rfl
   ·rw[e]at hA;exact absurd rfl hA
  refine core ?_ (by omega)
  have hz1:(au S j).z-1≠(au S j).a:=fun e=>by
   have:=(kl P.e).1;rw[e,hno]at this;cases this
  have hz2:(au S j).z-1≠(au S j).a+1:=fun e=>by
   have:=P.e;rw[e,<-e1,hk]at this;cases this
  omega
theorem qy(T:List Tk)(h i q:Nat)(h1:h+q<i)(h2:i<=T.length):(eE T h i).getD q ⟨#[]⟩=tS T (h+q):=by
 unfold eE tS;rw[List.getD_eq_getElem?_getD,List.getElem?_map,List.getElem?_take,if_pos (by omega),List.getElem?_drop,List.getD_eq_getElem?_getD];rw[List.getElem?_eq_getElem (by omega)];rfl
theorem nV(T:List Tk)(h i:Nat)(h1:h<=i)(h2:i<=T.length):(eE T h i).length=i-h:=by
 unfold eE;rw[List.length_map,List.length_take,List.length_drop];omega
theorem uu{j:Nat}(P:ue T S j):bV T (au S j).h=(eE T (au S j).h ((au S j).z-1)).takeWhile jE:=by
 have hzl:=P.zt;have hz0:=P.pos;have hle:=P.le;unfold bV
 have e:T.drop (au S j).h=(T.drop (au S j).h).take ((au S j).z-1-(au S j).h)++(T.getD ((au S j).z-1) ic) :: T.drop (au S j).z:=by
  conv=>lhs;rw[<-List.take_append_drop ((au S j).z-1-(au S j).h) (T.drop (au S j).h)]
  rw[List.drop_drop,show(au S j).h+((au S j).z-1-(au S j).h)=(au S j).z-1 by omega,CY T ((au S j).z-1) (by omega),show(au S j).z-1+1=(au S j).z by omega]
 rw[e,show ∀(L:List Tk) (t:Tk) (M:List Tk),L++t :: M=(L++[t])++M from fun L t M=>by simp,vE]
 ·rw[zW _ _ (fun u hu=>?_) P.dot]
  ·rfl
  ·obtain⟨q,hq,e2⟩:=List.getElem_of_mem hu
   rw[List.length_take,List.length_drop]at hq;have:=(P.w ((au S j).h+q) (by omega) (by omega)).2;unfold bY at this;simp only[Bool.or_eq_false_iff]at this
   have e3:u.s=tS T ((au S j).h+q):=by
    rw[<-e2,List.getElem_take,List.getElem_drop];unfold tS;rw[List.getD_eq_getElem?_getD,List.getElem?_eq_getElem (by omega)];rfl
   rw[e3];exact this.1.1
 ·exact⟨T.getD ((au S j).z-1) ic,by simp,qj P.dot⟩
theorem qI{j:Nat}(P:ue T S j):eD T (au S j).h:=⟨(au S j).z-1,P.le,by have:=P.zt;have:=P.pos;omega,qj P.dot⟩
theorem sA{key x:ByteArray}{n:Nat}{B:List ByteArray}(h:kB T S key x n B=0)(hx:(x.toList == [36,61])=true):(key.toList == [36,112])=true/\aI B ⟨#[36,61]⟩=false/\B.length≠0:=by
 unfold kB at h;rw[gQ hx (m:=[36,46]),if_neg (by decide),hx,Bool.true_and]at h
 cases h1:(key.toList == [36,112])
 ·rw[h1,Bool.false_and,if_neg (by simp),if_pos (by rw[mX hx];decide +kernel)]at h;cases h
 ·cases h2:aI B ⟨#[36,61]⟩
  ·rw[h1,h2]at h
   by_cases hz:B.length=0
   ·rw[if_pos (by rfl),if_pos hz]at h;cases h
   ·exact⟨rfl,rfl,hz⟩
  ·rw[h1,h2,if_neg (by decide),if_pos (by rw[mX hx];decide +kernel)]at h;cases h
end
section
variable {T:List Tk} {S:List Sm} {f:Nat}
theorem xE(T:List Tk)(h:Nat):eE T h h=[]:=by unfold eE;rw[Nat.sub_self];simp
theorem sF{j:Nat}(P:ue T S j):0<(eE T (au S j).h ((au S j).z-1)).length/\(((au S j).k.toList == [36,102])=true->1<(eE T (au S j).h ((au S j).z-1)).length):=by
 have hc:=P.cl;unfold fU at hc
 split at hc
 ·cases hc
 ·next h1 =>
  split at hc
  ·cases hc
  ·next h2 =>
   refine⟨by omega,fun hk=>?_⟩;have:¬(eE T (au S j).h ((au S j).z-1)).length<2:=fun hl=>h2 (by rw[hk];simp[hl])
   omega
theorem xn{h i:Nat}{x:ByteArray}(h1:h<=i)(h2:i<=T.length)(hx:aI (eE T h i) x=true):∃q,h<=q/\q<i/\tS T q=x:=by
 unfold aI at hx;obtain⟨y,hy,e⟩:=List.any_eq_true.1 hx;obtain⟨q,hq,e2⟩:=List.getElem_of_mem hy;rw[nV T h i h1 h2]at hq;refine⟨h+q,by omega,by omega,?_⟩;have e3:=qy T h i q (by omega) h2;rw[List.getD_eq_getElem?_getD,List.getElem?_eq_getElem (by rw[nV T h i h1 h2];exact hq)]at e3;have e4:(eE T h i)[q]=tS T (h+q):=e3;rw[<-e4,e2];have:y.toList=x.toList:=by simpa using e
 apply ByteArray.ext
 apply Array.toList_inj.1
 rw[<-ByteArray.toList_eq,<-ByteArray.toList_eq,this]
theorem rh{j:Nat}(P:ue T S j)(hk:((au S j).k.toList == [36,112])=false):bV T (au S j).h=eE T (au S j).h ((au S j).z-1):=by
 rw[uu P];refine sC _ ?_
 cases e:aI (eE T (au S j).h ((au S j).z-1)) ⟨#[36,61]⟩
 ·rfl
 ·have hz:=P.zt
  have hz0:=P.pos;obtain⟨q,h1,h2,e2⟩:=xn P.le (by omega) e;have hr:=(P.w q h1 h2).1;have:=(sA hr (by rw[e2];decide +kernel)).1;rw[hk]at this;cases this
theorem qF{j:Nat}(P:ue T S j):((tS T (au S j).h).toList == [36,61])=false/\(au S j).h<(au S j).z-1:=by
 have hl:=(sF P).1;have hz:=P.zt;have hz0:=P.pos;rw[nV T _ _ P.le (by omega)]at hl;have hlt:(au S j).h<(au S j).z-1:=by omega
 refine⟨?_,hlt⟩
 cases e:((tS T (au S j).h).toList == [36,61])
 ·rfl
 ·have hr:=(P.w _ (Nat.le_refl _) hlt).1
  have:=(sA hr e).2.2;rw[xE]at this;exact absurd rfl this
theorem wa{j:Nat}(P:ue T S j):0<(bV T (au S j).h).length/\(bV T (au S j).h).getD 0 ⟨#[]⟩=tS T (au S j).h:=by
 obtain⟨h1,h2⟩:=qF P;have hz:=P.zt;have hg:=qy T (au S j).h ((au S j).z-1) 0 (by omega) (by omega);have hl:=(sF P).1;rw[uu P];rw[Nat.add_zero]at hg;generalize eE T (au S j).h ((au S j).z-1)=B at *
 cases B with
 | nil=>simp at hl
 | cons x B =>
  have e:x=tS T (au S j).h:=hg;have hq:jE x=true:=by unfold jE;rw[e,h1];rfl
  rw[List.takeWhile_cons_of_pos hq];exact⟨by simp,e⟩
theorem Lu(p:Ac T T.length S f)(hall:∀q,q<T.length->a9 T S q=0)(n:Nat)(hn:n<=S.length):FR T S n:=fun j hj hk=>by
 have hends:bY (au S j).k=false:=by
  unfold aE aH at hk;simp only[Bool.or_eq_true]at hk
  rcases hk with (h | h) | (h | h) <;> exact fY h (by decide)
 have P:=nR p hall j (by omega) hends;refine⟨(wa P).1,fun hf=>?_⟩;have hnp:((au S j).k.toList == [36,112])=false:=by rw[gQ hf];decide
 show 1<(bV T (au S j).h).length
 rw[rh P hnp];exact(sF P).2 hf
theorem uK{key x:ByteArray}{n:Nat}{B:List ByteArray}(h:kB T S key x n B=0)(he:bY x=false)(hq:(x.toList == [36,61])=false)(hB:aI B ⟨#[36,61]⟩=false):(if((key.toList == [36,99])||(key.toList == [36,118]))=true then i6 T S x n (key.toList == [36,99]) B else id T S key x n B)=0:=by
 unfold kB at h
 have hd:(x.toList == [36,46])=false:=by
  unfold bY at he;simp only[Bool.or_eq_false_iff]at he;exact he.1.1
 rw[hd,hq,hB,if_neg (by simp),Bool.false_and,if_neg (by simp)]at h
 split at h
 ·cases h
 ·exact h
theorem Fv{j:Nat}(P:ue T S j)(hk:(aE (au S j).k||aH (au S j).k)=true):dP T S (tS T (au S j).h) j=true:=by
 obtain⟨h1,h2⟩:=qF P;obtain⟨hr,he⟩:=P.w _ (Nat.le_refl _) h2;rw[xE]at hr;have hs:=uK hr he h1 rfl
 have hkk:(((au S j).k.toList == [36,99])||((au S j).k.toList == [36,118]))=false/\((au S j).k.toList == [36,100])=false:=by
  unfold aE aH at hk;simp only[Bool.or_eq_true]at hk
  rcases hk with (h | h) | (h | h) <;> (rw[gQ h,gQ h,gQ h];decide)
 rw[hkk.1,if_neg (by simp)]at hs;unfold id at hs;rw[hkk.2,if_neg (by simp),if_pos (by rfl)]at hs
 cases hc:dP T S (tS T (au S j).h) j
 ·rw[hc,if_pos rfl]at hs;cases hs
 ·rfl
theorem Lp{j:Nat}(P:ue T S j)(hk:((au S j).k.toList == [36,102])=true):jF T S (tS T ((au S j).h+1)) j=true/\(bV T (au S j).h).getD 1 ⟨#[]⟩=tS T ((au S j).h+1):=by
 have hl:=(sF P).2 hk;have hz:=P.zt;have hz0:=P.pos;rw[nV T _ _ P.le (by omega)]at hl;have hnp:((au S j).k.toList == [36,112])=false:=by rw[gQ hk];decide
 have hg:=qy T (au S j).h ((au S j).z-1) 1 (by omega) (by omega);refine⟨?_,by rw[rh P hnp];exact hg⟩;obtain⟨hr,he⟩:=P.w ((au S j).h+1) (by omega) (by omega)
 have hq:((tS T ((au S j).h+1)).toList == [36,61])=false:=by
  cases e:((tS T ((au S j).h+1)).toList == [36,61])
  ·rfl
  ·have:=(sA hr e).1
   rw[hnp]at this;cases this
 have hb:eE T (au S j).h ((au S j).h+1)=[tS T (au S j).h]:=by
  have:=zT T (au S j).h (au S j).h (Nat.le_refl _) (by omega);rw[xE]at this;exact this
 have hB:aI (eE T (au S j).h ((au S j).h+1)) ⟨#[36,61]⟩=false:=by
  rw[hb,qS];have e:(⟨#[36,61]⟩:ByteArray).toList=[36,61]:=by decide +kernel
  rw[e];exact(qF P).1
 have hs:=uK hr he hq hB;rw[gQ hk,gQ hk,if_neg (by decide)]at hs;unfold id at hs;rw[hb,gQ hk,if_neg (by decide),if_neg (by simp),hk,if_pos rfl,if_neg (by simp)]at hs
 cases hv:jF T S (tS T ((au S j).h+1)) j
 ·rw[hv,if_pos rfl]at hs;cases hs
 ·rfl
theorem x9(p:Ac T T.length S f)(hall:∀q,q<T.length->a9 T S q=0){x:ByteArray}{i k:Nat}(hi:i<=S.length)(hk:k<=S.length)(h1:dP T S x i=true)(h2:jF T S x k=true):False:=by
 unfold dP im at h1;unfold jF im at h2;obtain⟨j,hj,e1⟩:=List.any_eq_true.1 h1;obtain⟨m,hm,e2⟩:=List.any_eq_true.1 h2;have hj:=List.mem_range.1 hj;have hm:=List.mem_range.1 hm;unfold nS at e1 e2;rw[mg.1,Bool.and_eq_true,Bool.and_eq_true]at e1;rw[mg.2,Bool.and_eq_true,Bool.and_eq_true]at e2;obtain⟨c1,c2,-⟩:=e1;obtain⟨v1,v2,-⟩:=e2
 have word:∀(j:Nat),j<S.length->(((au S j).k.toList == [36,99])=true∨((au S j).k.toList == [36,118])=true)->aI (bV T (au S j).h) x=true->∃B,i6 T S x j ((au S j).k.toList == [36,99]) B=0:=fun j hj hkey hb=>by
  have hends:bY (au S j).k=false:=by rcases hkey with h | h <;> exact fY h (by decide)
  have P:=nR p hall j hj hends;have hnp:((au S j).k.toList == [36,112])=false:=by rcases hkey with h | h <;> (rw[gQ h];decide)
  rw[rh P hnp]at hb;have hz:=P.zt;have hz0:=P.pos;obtain⟨q,q1,q2,e⟩:=xn P.le (by omega) hb;obtain⟨hr,he⟩:=P.w q q1 q2
  have noeq:∀q,(au S j).h<=q->q<(au S j).z-1->((tS T q).toList == [36,61])=false:=fun q h1 h2=>by
   cases e:((tS T q).toList == [36,61])
   ·rfl
   ·have:=(sA (P.w q h1 h2).1 e).1
    rw[hnp]at this;cases this
  have hB:aI (eE T (au S j).h q) ⟨#[36,61]⟩=false:=by
   cases e3:aI (eE T (au S j).h q) ⟨#[36,61]⟩
   ·rfl
   ·obtain⟨q',a1,a2,a3⟩:=xn q1 (by omega) e3
    have:=noeq q' a1 (by omega);rw[a3]at this;exact absurd this (by decide +kernel)
  have hs:=uK hr he (noeq q q1 q2) hB;rw[if_pos (by rcases hkey with h | h <;> rw[h] <;> simp),e]at hs;exact⟨_,hs⟩
 obtain⟨B1,n1⟩:=word j (by omega) (Or.inl c1) c2;obtain⟨B2,n2⟩:=word m (by omega) (Or.inr v1) v2;have vno:((au S m).k.toList == [36,99])=false:=by rw[gQ v1];decide
 rw[c1]at n1;rw[vno]at n2;unfold i6 at n1 n2
 rcases Nat.lt_trichotomy j m with hlt | heq | hgt
 ·have hc:dP T S x m=true:=by
   unfold dP im;exact lE j hlt (by unfold nS;rw[mg.1,c1,c2];simp)
  rw[hc]at n2
  split at n2
  ·cases n2
  ·simp at n2
 ·rw[heq,vno]at c1;cases c1
 ·have hd:im T S ⟨#[36,118]⟩ x j false=true:=by
   unfold im;exact lE m hgt (by unfold nS;rw[mg.2,v1,v2];simp)
  have ht:iq T S x j=true:=by unfold iq;rw[hd];simp
  rw[ht]at n1
  split at n1
  ·cases n1
  ·simp at n1
theorem LE(p:Ac T T.length S f)(hall:∀q,q<T.length->a9 T S q=0)(n:Nat)(hn:n<=S.length):KG T S n:=fun r hr hk=>by
 have P:=nR p hall r (by omega) (by unfold aE at hk;rcases Bool.or_eq_true _ _ ▸ hk with h | h <;> exact fY h (by decide));have hc:=Fv P (by rw[hk];rfl);have e0:(cm T S r).getD 0 ⟨#[]⟩=tS T (au S r).h:=(wa P).2;rw[e0]
 cases e:aI (fC T S (cw T S r) (cw T S r).length) (tS T (au S r).h)
 ·rfl
 ·exfalso
  unfold aI at e;obtain⟨y,hy,e2⟩:=List.any_eq_true.1 e;unfold fC at hy;obtain⟨i,hi,rfl⟩:=List.mem_map.1 hy;unfold vf at hi;obtain⟨i1,i2⟩:=List.mem_filter.1 hi;have i1:=List.mem_range.1 i1;have eg:(cw T S r).getD i 0=(cw T S r)[i]:=by rw[List.getD_eq_getElem?_getD,List.getElem?_eq_getElem i1];rfl
  unfold CF at i2;rw[eg]at i2 e2;have hj:=qc T S r (cw T S r)[i] (List.getElem_mem i1);generalize (cw T S r)[i]=j at *;have Pj:=nR p hall j (by omega) (fY i2 (by decide));obtain⟨w1,w2⟩:=Lp Pj i2;have e3:cm T S j=bV T (au S j).h:=rfl;rw[e3,w2]at e2
  have e4:tS T ((au S j).h+1)=tS T (au S r).h:=by
   have:(tS T ((au S j).h+1)).toList=(tS T (au S r).h).toList:=by simpa using e2
   apply ByteArray.ext
   apply Array.toList_inj.1
   rw[<-ByteArray.toList_eq,<-ByteArray.toList_eq,this]
  rw[e4]at w1;exact x9 p hall (by omega) (by omega) hc w1
end
theorem Jy(T:List Tk)(hT:T.length<=10000)(hall:∀q,q<T.length->a9 T (as T) q=0)(n:Nat)(hn:n<=(as T).length):mO T (as T) n:=by
 have p:=fK T;have hl:(as T).length<=T.length:=sK T T.length;obtain⟨ok,fo⟩:=BS T (by omega) hall;have h:mO T (as T) (as T).length:=⟨ok,by omega,hT,fun j hj hk=>qI (nR p hall j hj hk),fo⟩;exact h.mono hn
def CG(S:List Sm)(a r:Nat):Prop:=r<a/\(aE (au S r).k||aH (au S r).k)=true
structure KY(T:List Tk)(S:List Sm)(a i:Nat)(s:cO):Prop where
 nd:s.need<=10000
 ways:s.ref=-1∨(s.ref=-2/\s.back<i)∨∃r,CG S a r/\s.ref=(r:Nat)/\s.need=gB T S (r:Nat)
def lA(T:List Tk)(S:List Sm)(a:Nat)(P:List cO):Prop:=∀i,i<P.length->KY T S a i (bG P i)
section
variable {T:List Tk} {S:List Sm} {a:Nat}
theorem lA.snoc{P:List cO}{s:cO}(h:lA T S a P)(hs:KY T S a P.length s):lA T S a (P++[s]):=fun i hi=>by
 rw[List.length_append,List.length_cons,List.length_nil]at hi
 by_cases e:i<P.length
 ·have e2:bG (P++[s]) i=bG P i:=by unfold bG;rw[List.getD_eq_getElem?_getD,List.getD_eq_getElem?_getD,List.getElem?_append_left e]
  rw[e2];exact h i e
 ·have e1:i=P.length:=by omega
  have e2:bG (P++[s]) i=s:=by unfold bG;rw[e1,List.getD_eq_getElem?_getD,List.getElem?_append_right (Nat.le_refl _),Nat.sub_self];rfl
  rw[e2,e1];exact hs
theorem lA.nil:lA T S a []:=fun i hi=>by simp at hi
theorem xZ(ha:a<=10000){r:Nat}(hr:r<a):gB T S (r:Nat)<=10000:=by
 unfold gB
 split
 ·omega
 ·split
  ·have:=kY T S (r:Int).toNat
   rw[Int.toNat_natCast]at this ⊢;omega
  ·omega
theorem vV{x:ByteArray}{k:Nat}(h:dX T S a x=(k:Int)):CG S a k:=by
 have hw:=nL T S a x;rw[h]at hw
 rcases hw with e | ⟨q,hq,e⟩
 ·omega
 ·have e1:k=q:=by omega
  subst e1;refine⟨hq,?_⟩;unfold dX at h
  split at h
  ·omega
  ·split at h
   ·unfold bn at h
    cases hf:(List.range a).find? (oy T S x) with
    | none=>rw[hf]at h;simp at h
    | some j =>
     rw[hf]at h;have ej:j=k:=by have h:(j:Int)=(k:Int):=h;omega
     have hp:=List.find?_some hf;rw[ej]at hp;unfold oy at hp;rw[Bool.and_eq_true]at hp
     cases ha:(aE (au S k).k||aH (au S k).k)
     ·exfalso
      have:cd T (au S k)=⟨#[]⟩:=by unfold cd;rw[ha,if_neg (by simp)]
      rw[this]at hp;exact absurd hp.1 (by decide +kernel)
     ·rfl
   ·omega
theorem Hj(ha:a<=10000)(zt:Nat)(n:Nat):∀i P,lA T S a P->lA T S a (lI T S a zt n i P).st/\((lI T S a zt n i P).why=0->0<(lI T S a zt n i P).st.length)/\(lI T S a zt n i P).st.length<=P.length+n:=by
 induction n with
 | zero =>
  intro i P hP;rw[lI]
  split
  ·exact⟨lA.nil,fun h=>(by cases h),Nat.zero_le _⟩
  ·exact⟨hP,fun _=>(by simp only;omega),(by simp)⟩
 | succ n ih =>
  intro i P hP;rw[lI]
  split
  ·obtain⟨h1,h2,h3⟩:=ih (i+1) _ (hP.snoc (s:=⟨-1,0,0,(T.getD i ic).file,(T.getD i ic).line,(T.getD i ic).col⟩) ⟨by show 0<=10000;omega,Or.inl rfl⟩)
   exact⟨h1,h2,by simp at h3 ⊢;omega⟩
  ·split
   ·exact⟨lA.nil,fun h=>(by cases h),Nat.zero_le _⟩
   ·next h1 h2 =>
    obtain⟨k,hk⟩:∃k:Nat,dX T S a (tS T i)=k:=⟨(dX T S a (tS T i)).toNat,by omega⟩
    have hr:=vV hk;rw[hk];obtain⟨h1,h2,h3⟩:=ih (i+1) _ (hP.snoc (s:=⟨(k:Int),0,gB T S (k:Int),(T.getD i ic).file,(T.getD i ic).line,(T.getD i ic).col⟩) ⟨xZ ha hr.1,Or.inr (Or.inr ⟨k,hr,rfl,rfl⟩)⟩);exact⟨h1,h2,by simp at h3 ⊢;omega⟩
theorem Gf(ha:a<=10000)(refs:List Nat)(hrefs:∀r∈refs,CG S a r)(en:Lt)(L:List Lt):∀P tags num fr,lA T S a P->(∀t∈tags,t<P.length)->(fr=true->0<P.length) ->
  lA T S a (lF T S refs en L P tags num fr).st/\((lF T S refs en L P tags num fr).why=0->0<(lF T S refs en L P tags num fr).st.length)/\(lF T S refs en L P tags num fr).st.length<=P.length+L.length:=by
 induction L with
 | nil =>
  intro P tags num fr hP _ _;rw[lF]
  split
  ·exact⟨lA.nil,fun h=>(by cases h),Nat.zero_le _⟩
  ·split
   ·exact⟨lA.nil,fun h=>(by cases h),Nat.zero_le _⟩
   ·exact⟨hP,fun _=>(by simp only;omega),(by simp)⟩
 | cons l L ih =>
  intro P tags num fr hP hT hF;rw[lF]
  split
  ·obtain⟨h1,h2,h3⟩:=ih P tags (num++Ab l.c) false hP hT (fun h=>by cases h)
   exact⟨h1,h2,by simp at h3 ⊢;omega⟩
  ·split
   ·split
    ·exact⟨lA.nil,fun h=>(by cases h),Nat.zero_le _⟩
    ·next hz =>
     have hle:=vG (num++Ab l.c) (refs.length+tags.length);generalize gD (num++Ab l.c) (refs.length+tags.length)=m at *
     have hs:KY T S a P.length (ph T S refs tags m l):=by
      unfold ph
      split
      ·next hm =>
       have hq:m-1<refs.length:=by omega
       have e:refs.getD (m-1) 0=refs[m-1]:=by rw[List.getD_eq_getElem?_getD,List.getElem?_eq_getElem hq];rfl
       have hr:=hrefs refs[m-1] (List.getElem_mem hq);rw[e];exact⟨xZ ha hr.1,Or.inr (Or.inr ⟨_,hr,rfl,rfl⟩)⟩
      ·next hm =>
       have hq:m-refs.length-1<tags.length:=by omega
       have e:tags.getD (m-refs.length-1) 0=tags[m-refs.length-1]:=by rw[List.getD_eq_getElem?_getD,List.getElem?_eq_getElem hq];rfl
       rw[e];exact⟨by show 0<=10000;omega,Or.inr (Or.inl ⟨rfl,hT _ (List.getElem_mem hq)⟩)⟩
     obtain⟨h1,h2,h3⟩:=ih _ tags ⟨#[]⟩ true (hP.snoc hs) (fun t ht=>by rw[List.length_append];have:=hT t ht;omega) (fun _=>by simp);exact⟨h1,h2,by simp at h3 ⊢;omega⟩
   ·split
    ·next hz =>
     have hp:=hF hz.2
     obtain⟨h1,h2,h3⟩:=ih P (tags++[P.length-1]) num false hP (fun t ht=>by
      rcases List.mem_append.1 ht with h | h
      ·exact hT t h
      ·rw[List.mem_singleton.1 h];omega) (fun h=>by cases h)
     exact⟨h1,h2,by simp at h3 ⊢;omega⟩
    ·split
     ·obtain⟨h1,h2,h3⟩:=ih _ tags num false (hP.snoc (s:=⟨-1,0,0,l.file,l.line,l.col⟩) ⟨by show 0<=10000;omega,Or.inl rfl⟩) (fun t ht=>by rw[List.length_append];have:=hT t ht;omega) (fun h=>by cases h)
      exact⟨h1,h2,by simp at h3 ⊢;omega⟩
     ·exact⟨lA.nil,fun h=>(by cases h),Nat.zero_le _⟩
theorem IG(ha:a<=10000)(hO:ev T)(zt:Nat)(n:Nat):∀i refs,(∀r∈refs,CG S a r)->lA T S a (se T S a zt n i refs).st/\((se T S a zt n i refs).why=0->0<(se T S a zt n i refs).st.length)/\(se T S a zt n i refs).st.length<=1024*T.length:=by
 induction n with
 | zero=>intro i refs _;rw[se];exact⟨lA.nil,fun h=>(by cases h),Nat.zero_le _⟩
 | succ n ih =>
  intro i refs hr;rw[se]
  split
  ·obtain⟨h1,h2,h3⟩:=Gf (T:=T) ha refs hr (BY (T.getD zt ic)) (dR T (i+1) zt) [] [] ⟨#[]⟩ false lA.nil (fun t ht=>by cases ht) (fun h=>by cases h)
   have:=uL T hO (i+1) zt;rw[List.length_nil,Nat.zero_add]at h3;exact⟨h1,h2,by unfold iZ;omega⟩
  ·split
   ·exact⟨lA.nil,fun h=>(by cases h),Nat.zero_le _⟩
   ·split
    ·exact⟨lA.nil,fun h=>(by cases h),Nat.zero_le _⟩
    ·next h1 h2 h3 =>
     obtain⟨k,hk⟩:∃k:Nat,dX T S a (tS T i)=k:=⟨(dX T S a (tS T i)).toNat,by omega⟩
     refine ih (i+1) _ (fun r hr2=>?_)
     rcases List.mem_append.1 hr2 with h | h
     ·exact hr r h
     ·rw[List.mem_singleton.1 h,hk,Int.toNat_natCast];exact vV hk
theorem ti(ha:a<=10000)(hO:ev T)(hT:T.length<=10000)(e zt:Nat)(hz:zt<=T.length):lA T S a (ff T S a e zt).st/\((ff T S a e zt).why=0->0<(ff T S a e zt).st.length)/\(ff T S a e zt).st.length<=100000000:=by
 unfold ff
 split
 ·unfold iQ
  obtain⟨h1,h2,h3⟩:=IG (T:=T) (S:=S) ha hO zt (zt-(e+2)) (e+2) (cw T S a) (fun r hr=>by
   obtain⟨k1,-,k3⟩:=vS T S a r hr;exact⟨k1,by rw[k3];simp⟩)
  exact⟨h1,h2,by omega⟩
 ·obtain⟨h1,h2,h3⟩:=Hj (T:=T) (S:=S) ha zt (zt-(e+1)) (e+1) [] lA.nil
  exact⟨h1,h2,by simp at h3;omega⟩
theorem Ez(ha:a<=10000)(hO:ev T)(hT:T.length<=10000)(e zt:Nat)(hz:zt<=T.length):GL T S a (ff T S a e zt):=by
 obtain⟨k1,k2,k3⟩:=ti (T:=T) (S:=S) ha hO hT e zt hz;refine⟨k3,fun i=>?_,fun h=>⟨k2 h,fun i hi hne=>⟨?_⟩⟩⟩
 ·by_cases hi:i<(ff T S a e zt).st.length
  ·have:=(k1 i hi).nd;omega
  ·have:bG (ff T S a e zt).st i=Lg:=by unfold bG;rw[List.getD_eq_getElem?_getD,List.getElem?_eq_none (by omega)];rfl
   rw[this];show 0<=100000;omega
 ·rcases(k1 i hi).ways with h | ⟨h,hb⟩ | ⟨r,hr,h1,h2⟩
  ·exact absurd h hne
  ·exact Or.inl ⟨h,hb⟩
  ·refine Or.inr ⟨r,hr.1,h1,hr.2,fun hk=>?_⟩
   rw[h2];unfold gB;rw[if_neg (by omega),Int.toNat_natCast,if_pos hk]
end
def vt(t:Tk):Prop:=t.s.size<=1024/\0<=t.col/\t.col<=10000
theorem xv:ev []:=fun t ht=>by cases ht
theorem kR{L M:List Tk}(h:ev L)(k:ev M):ev (L++M):=fun t ht=>by
 rcases List.mem_append.1 ht with e | e
 ·exact h t e
 ·exact k t e
theorem j8{t:Tk}(h:vt t):ev [t]:=fun u hu=>by rw[List.mem_singleton.1 hu];exact h
theorem pV{t:Tk}(r:Int)(h:vt t):vt (oN t r):=⟨by show(0:Nat)<=1024;omega,h.2⟩
theorem wI(nm d s:ByteArray)(r:Int)(k:Nat)(hs:s.size<=1024)(hk:k<=1024):vt (kG nm d s r k):=by
 have:=xA d k;exact⟨hs,by show 0<=aW d k;omega,by show aW d k<=10000;omega⟩
theorem yX(nm d:ByteArray)(a z:Nat)(L:List Tk)(hL:ev L)(haz:a<=z)(hz:z<=1024):ev (gW nm d a z L):=by
 unfold gW
 split
 ·exact hL
 ·exact kR hL (j8 (wI nm d _ 0 a (by rw[ByteArray.size_extract];omega) (by omega)))
theorem yN(nm d:ByteArray)(i:Nat)(hi:i<=1024):ev (h9 nm d i):=by
 induction i with
 | zero=>exact xv
 | succ i ih =>
  rw[h9]
  split
  ·exact yX nm d _ i _ (ih (by omega)) (mm d i) (by omega)
  ·exact ih (by omega)
theorem Ek(nm d:ByteArray)(hd:d.size<=1024):ev (fO nm d):=by
 unfold fO
 split
 ·next i h =>
  have hi:i<d.size:=List.mem_range.1 (List.mem_of_find?_eq_some h);exact kR (yN nm d i (by omega)) (j8 (wI nm d _ 1 i (by show(0:Nat)<=1024;omega) (by omega)))
 ·exact kR (yX nm d _ _ _ (yN nm d _ hd) (mm d _) hd) (j8 (wI nm d _ 0 _ (by show(0:Nat)<=1024;omega) hd))
theorem tA{t:Tk}{L:List Tk}(h:vt t)(k:ev L):ev (t :: L):=fun u hu=>by
 rcases List.mem_cons.1 hu with e | e
 ·rw[e];exact h
 ·exact k u e
theorem FS(b:Bool)(L:List Tk)(h:ev L):ev (bJ b L):=by
 induction L generalizing b with
 | nil=>cases b <;> exact xv
 | cons t L ih =>
  have ht:vt t:=h t (List.mem_cons_self ..);have hL:ev L:=fun u hu=>h u (List.mem_cons_of_mem _ hu)
  have hz:∀r,vt ⟨⟨#[]⟩,r,t.file,t.line,t.col⟩:=fun r=>⟨by show(0:Nat)<=1024;omega,ht.2⟩
  cases b
  ·rw[bJ]
   split
   ·exact ih true hL
   ·exact tA ht (ih false hL)
  ·rw[bJ]
   split
   ·exact tA ht (ih true hL)
   ·split
    ·exact ih false hL
    ·split
     ·exact tA (hz 3) (ih true hL)
     ·split
      ·exact j8 (hz 2)
      ·exact ih true hL
theorem Fb(rec:Nat->List Bool->List Tk->List Tk×List Bool)(hrec:∀k sn out,ev out->ev (rec k sn out).1)(fs:Fs)(n:Nat):∀L,L.length<=n->ev L->∀sn out,ev out->ev (b9 rec fs L sn out).1:=by
 induction n with
 | zero =>
  intro L hl _ sn out ho
  cases L with
  | nil=>rw[b9];exact ho
  | cons _ _=>simp at hl
 | succ n ih =>
  intro L hl hL sn out ho
  cases L with
  | nil=>rw[b9];exact ho
  | cons t r =>
   have ht:vt t:=hL t (List.mem_cons_self ..);have hr:ev r:=fun u hu=>hL u (List.mem_cons_of_mem _ hu)
   have hl1:r.length<=n:=by simpa using hl
   rw[b9.eq_def];simp only
   split
   ·split
    ·exact ho
    ·exact kR ho (j8 (pV 7 ht))
   ·split
    ·exact ih r hl1 hr sn _ (kR ho (j8 ht))
    ·split
     ·exact kR ho (j8 (pV 4 ht))
     ·cases r with
      | nil=>exact ho
      | cons a r =>
       have ha:vt a:=hr a (List.mem_cons_self ..)
       cases r with
       | nil=>exact kR ho (j8 (pV _ ha))
       | cons b r =>
        have hb:vt b:=hr b (List.mem_cons_of_mem _ (List.mem_cons_self ..));have hr2:ev r:=fun u hu=>hr u (List.mem_cons_of_mem _ (List.mem_cons_of_mem _ hu))
        have hl2:r.length<=n:=by simp at hl1;omega
        simp only
        split
        ·exact kR ho (j8 (pV _ ha))
        ·split
         ·exact kR ho (j8 (pV _ hb))
         ·split
          ·exact ih r hl2 hr2 sn out ho
          ·split
           ·exact hrec _ sn out ho
           ·exact ih r hl2 hr2 _ _ (hrec _ sn out ho)
theorem E8(fs:Fs)(hfd:∀k,(aj fs k).size<=1024)(n:Nat):∀k sn out,ev out->ev (dy fs n k sn out).1:=by
 induction n with
 | zero=>intro k sn out ho;exact ho
 | succ n ih =>
  intro k sn out ho;rw[dy];exact Fb _ ih fs _ _ (Nat.le_refl _) (FS _ _ (Ek _ _ (hfd k))) _ _ ho
theorem Ft(fs:Fs)(k:Nat)(hfd:∀k,(aj fs k).size<=1024):ev (da fs k).1:=by
 have h:ev (nr fs k):=E8 fs hfd _ _ _ _ xv;unfold da
 split
 ·exact fun t ht=>h t (List.dropLast_subset _ ht)
 ·exact h
def wO(T:List Tk)(S:List Sm)(j:Nat):Nat:=(au S j).h+(bV T (au S j).h).length
theorem Ly(p:ByteArray->Bool)(L:List ByteArray)(h:∃x∈L,p x=false):(L.takeWhile p).length<L.length/\p (L.getD (L.takeWhile p).length ⟨#[]⟩)=false/\∀q,q<(L.takeWhile p).length->p (L.getD q ⟨#[]⟩)=true:=by
 induction L with
 | nil=>obtain⟨x,hx,-⟩:=h;cases hx
 | cons a L ih =>
  cases ha:p a
  ·rw[List.takeWhile_cons,if_neg (by rw[ha];simp)]
   exact⟨by simp,ha,fun q hq=>by simp at hq⟩
  ·rw[List.takeWhile_cons,if_pos ha]
   obtain⟨h1,h2,h3⟩:=ih (by
    obtain⟨x,hx,hp⟩:=h
    rcases List.mem_cons.1 hx with e | e
    ·rw[e,ha]at hp;cases hp
    ·exact⟨x,e,hp⟩)
   refine⟨by simp;omega,h2,fun q hq=>?_⟩
   cases q with
   | zero=>exact ha
   | succ q=>exact h3 q (by simpa using hq)
theorem Kl{T:List Tk}{S:List Sm}{j:Nat}(P:ue T S j)(hk:((au S j).k.toList == [36,112])=true) :
  (au S j).h<=wO T S j/\((tS T (wO T S j)).toList == [36,61])=true/\(∀q,(au S j).h<=q->q<wO T S j->((tS T q).toList == [36,61])=false)/\wO T S j<(au S j).z-1:=by
 have hz:=P.zt;have hz0:=P.pos;have hle:=P.le;have hc:=P.cl;have hl:=nV T (au S j).h ((au S j).z-1) hle (by omega)
 have hB:aI (eE T (au S j).h ((au S j).z-1)) ⟨#[36,61]⟩=true:=by
  unfold fU at hc
  split at hc
  ·cases hc
  ·split at hc
   ·cases hc
   ·cases e:aI (eE T (au S j).h ((au S j).z-1)) ⟨#[36,61]⟩
    ·rw[hk,e,if_pos (by decide)]at hc;cases hc
    ·rfl
 obtain⟨y,hy,ey⟩:=List.any_eq_true.1 hB
 have hex:∃x∈eE T (au S j).h ((au S j).z-1),jE x=false:=by
  refine⟨y,hy,?_⟩;unfold jE;have e:y.toList=(⟨#[36,61]⟩:ByteArray).toList:=by simpa using ey
  rw[e];decide +kernel
 obtain⟨h1,h2,h3⟩:=Ly jE _ hex;rw[<-uu P]at h1 h2 h3;rw[hl]at h1;unfold wO;refine⟨by omega,?_,fun q q1 q2=>?_,by omega⟩
 ·rw[qy T _ _ _ (by omega) (by omega)]at h2
  unfold jE at h2;simpa using h2
 ·have:=h3 (q-(au S j).h) (by omega)
  rw[qy T _ _ _ (by omega) (by omega),show(au S j).h+(q-(au S j).h)=q by omega]at this;unfold jE at this;simpa using this
end Go.Proofs.YtpddjjabfbfifaaGreat

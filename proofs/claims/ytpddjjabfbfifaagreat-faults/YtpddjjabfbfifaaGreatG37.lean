import Derived.Test.YtpddjjabfbfifaaGreatG36
namespace Go.Proofs.YtpddjjabfbfifaaGreat
open Go.RowKit
set_option maxHeartbeats 40000000
theorem dI{l m:List UInt8}{x:ByteArray}(h:(x.toList==l)=true):(x.toList==m)=(l==m):=by
 have:x.toList=l:=by simpa using h
 rw[this]
theorem dF{l:List UInt8}{x:ByteArray}(h:(x.toList==l)=true):x.toList=l:=by simpa using h
section
variable {T:List Tk} {t:Tk} {d:Db}
theorem v6(hf:gi T=T.length)(he:bZ t.s=true):LS (T++[t])=LS T++[⟨gi T,T.length+1,T.length+1,t.s⟩]/\gi (T++[t])=(T++[t]).length:=by
 obtain⟨a,b⟩:=pC T t;rw[if_pos he,zi hf (kz he).1]at a;rw[if_pos he]at b;exact⟨a,by rw[b];simp⟩
theorem mN(he:bZ t.s=false):LS (T++[t])=LS T/\gi (T++[t])=gi T:=by
 obtain⟨a,b⟩:=pC T t;rw[if_neg (by rw[he];simp)]at a b;exact⟨a,b⟩
theorem Kb{S:List Sm}{s:Sm}{U:List Tk}(h1:(s.k.toList == [36,118])=false)(h2:(s.k.toList == [36,99])=false)(h3:(s.k.toList == [36,102])=false):zT U (S++[s]) S.length=[]/\Dr U (S++[s]) S.length=[]/\Dx U (S++[s]) S.length=[]:=by
 unfold zT Dr Dx;rw[mh,h1,h2,h3];exact⟨rfl,rfl,rfl⟩
theorem AT{S:List Sm}{s:Sm}{U:List Tk}(h:(aE s.k||aH s.k)=false):Gz U (S++[s]) S.length=[]:=by
 have e:cd U s=⟨#[]⟩:=by unfold cd;rw[h,if_neg (by simp)]
 unfold Gz;rw[mh,e,if_pos mM]
theorem Jb{S:List Sm}{s:Sm}{U:List Tk}(h:(aE s.k||aH s.k)=true)(h2:((tS U s.a).toList == [])=false):Gz U (S++[s]) S.length=[tS U s.a]:=by
 have e:cd U s=tS U s.a:=by unfold cd;rw[h,if_pos rfl]
 unfold Gz;rw[mh,e,if_neg (by rw[h2];simp)]
theorem BE(ok:jg T (LS T) (LS T).length)(fo:kG T (LS T) (LS T).length)(I:se T (LS T) d)(hf:gi T=T.length)(hk:d.kind=0)(hsy:d.symbols=[])(hip:d.inProof=false)(hl:d.labels=jJ T (LS T))(hx:(t.s.toList == [])=false) :
  cZ T (LS T) t.s (LS T).length=(ay d t.s).1/\((ay d t.s).1=0->se (T++[t]) (LS (T++[t])) (ay d t.s).2/\OpE (T++[t]) (ay d t.s).2):=by
 have hde:=Gc I;have hta:=zO I hl t.s
 -- a keyword of a statement without a label
 have key:∀{n:Int} {d':Db},KeyK t.s.toList n->(aE t.s||aH t.s)=false->d'={ d with kind:=n }->se (T++[t]) (LS (T++[t])) d'/\OpE (T++[t]) d':=fun {n d'} hK ha e=>by
  obtain⟨c1,c2⟩:=mN (T:=T) (t:=t) hK.dep.2.2;have hkey:dY (T++[t]) (gi (T++[t]))=(t.s,T.length+1):=by rw[c2];exact zi hf hK.dep.2.1
  have hB:eE (T++[t]) (T.length+1) (T++[t]).length=[]:=by rw[my];simp
  subst e;refine⟨by rw[c1];exact I.same ok fo rfl rfl rfl rfl rfl,OpE.body t.s (T.length+1) [] hkey (by rw[c2];omega) (by simp) hK hB (by rw[gD];exact hip) hsy (fun h=>by rw[hip]at h;cases h) ?_ (fun h=>by rw[ha]at h;cases h)⟩;rw[c1,ha,if_neg (by simp),List.append_nil,od ok];exact hl
 cases h1:(t.s.toList == [36,123])
 ·cases h2:(t.s.toList == [36,125])
  ·cases h3:(t.s.toList == [36,99])
   ·cases h4:(t.s.toList == [36,118])
    ·cases h5:(t.s.toList == [36,100])
     ·cases h6:(aE t.s||aH t.s)
      ·have h7:(t.s.toList == [36,102])=false/\(t.s.toList == [36,101])=false/\(t.s.toList == [36,97])=false/\(t.s.toList == [36,112])=false:=by
        unfold aE aH at h6;simp only[Bool.or_eq_false_iff]at h6;exact⟨h6.2.1,h6.2.2,h6.1.1,h6.1.2⟩
       obtain⟨g1,g2,g3,g4⟩:=h7
       have e1:ay d t.s=bH d t.s:=by
        unfold ay;rw[h1,h2,h3,h4,h5,g1,g2,g3,g4];simp
       have e2:cZ T (LS T) t.s (LS T).length=if ge t.s ⟨#[36]⟩=true then 8 else if fB t.s=false then 12 else if dm d t.s=true then 13 else 0:=by
        unfold cZ;rw[h1,h2,h3,h4,h5,h6,hta];simp
       rw[e1,e2,hU];unfold bH
       cases k1:dw t.s
       ·cases k2:fB t.s
        ·exact⟨rfl,fun h=>by simp at h⟩
        ·cases k3:dm d t.s
         ·refine⟨rfl,fun _=>?_⟩
          have hne:bZ t.s=false:=by
           cases he:bZ t.s
           ·rfl
           ·have:=(kz he).1
            rw[hU,k1]at this;cases this
          obtain⟨c1,c2⟩:=mN (T:=T) (t:=t) hne;have e3:tS (T++[t]) (gi (T++[t]))=t.s:=by rw[c2,hf,qv]
          simp only[Bool.false_eq_true,if_false];exact⟨by rw[c1];exact I.same ok fo rfl rfl rfl rfl rfl,OpE.lab (by rw[c2,hf];simp) rfl hsy hip (by rw[e3,c1,od ok,<-hl];rfl) (by rw[e3];exact hx) (by rw[e3,hU];exact k1)⟩
         ·exact⟨rfl,fun h=>by simp at h⟩
       ·exact⟨rfl,fun h=>by simp at h⟩
      ·have e1:ay d t.s=(11,d):=by
        unfold ay;rw[h1,h2,h3,h4,h5];unfold aE aH at h6;rw[if_neg (by simp),if_neg (by simp),if_neg (by simp),if_neg (by simp),if_neg (by simp),if_pos];simp only[Bool.or_eq_true]at h6
        rcases h6 with (h | h) | (h | h)
        ·exact Or.inr (Or.inr (Or.inl h))
        ·exact Or.inr (Or.inr (Or.inr h))
        ·exact Or.inl h
        ·exact Or.inr (Or.inl h)
       have e2:cZ T (LS T) t.s (LS T).length=11:=by
        unfold cZ;rw[h1,h2,h3,h4,h5,h6];simp
       rw[e1,e2];exact⟨rfl,fun h=>by cases h⟩
     ·have hK:=KeyK.d
      rw[<-dF h5]at hK
      have e1:ay d t.s=(0,{ d with kind:=1 }):=by
       unfold ay;rw[h1,h2,h3,h4,h5];simp
      have e2:cZ T (LS T) t.s (LS T).length=0:=by
       unfold cZ;rw[h5];simp
      rw[e1,e2];exact⟨rfl,fun _=>key hK (by rw[(kJ (dF h5)).1,(kJ (dF h5)).2.1];decide) rfl⟩
    ·have hK:=KeyK.v
     rw[<-dF h4]at hK
     have e1:ay d t.s=(0,{ d with kind:=8 }):=by
      unfold ay;rw[h1,h2,h3,h4];simp
     have e2:cZ T (LS T) t.s (LS T).length=0:=by
      unfold cZ;rw[h4];simp
     rw[e1,e2];exact⟨rfl,fun _=>key hK (by rw[(kJ (dF h4)).1,(kJ (dF h4)).2.1];decide) rfl⟩
   ·have hK:=KeyK.c
    rw[<-dF h3]at hK;have h4:(t.s.toList == [36,118])=false:=by rw[dI h3];decide
    have h5:(t.s.toList == [36,100])=false:=by rw[dI h3];decide
    by_cases hb:0<d.blocks.length
    ·have e1:ay d t.s=(10,d):=by
      unfold ay;rw[h1,h2,h3];simp[hb]
     have e2:cZ T (LS T) t.s (LS T).length=10:=by
      unfold cZ;rw[h1,h2,h3,h4,h5,hde,decide_eq_true (show(0:Int)<(d.blocks.length:Int) by omega)];simp
     rw[e1,e2];exact⟨rfl,fun h=>by cases h⟩
    ·have e1:ay d t.s=(0,{ d with kind:=7 }):=by
      unfold ay;rw[h1,h2,h3,if_neg (by simp),if_neg (by simp),if_pos rfl,if_neg hb]
     have e2:cZ T (LS T) t.s (LS T).length=0:=by
      unfold cZ;rw[h1,h2,h3,h4,h5,hde,decide_eq_false (show ¬(0:Int)<(d.blocks.length:Int) by omega)];simp
     rw[e1,e2];exact⟨rfl,fun _=>key hK (by rw[(kJ (dF h3)).1,(kJ (dF h3)).2.1];decide) rfl⟩
  ·have h4:(t.s.toList == [36,118])=false:=by rw[dI h2];decide
   have h5:(t.s.toList == [36,100])=false:=by rw[dI h2];decide
   have he:bZ t.s=true:=by rw[(kJ (dF h2)).2.2];decide
   have e1:ay d t.s=(match d.blocks.getLast? with | none=>(9,d) | some p=>(0,cw d p)):=by
    unfold ay;rw[h1,h2,if_neg (by simp),if_pos rfl];rfl
   cases hb:d.blocks.getLast? with
   | none =>
    have hb0:d.blocks.length=0:=by rw[List.getLast?_eq_none_iff]at hb;rw[hb];rfl
    have e2:cZ T (LS T) t.s (LS T).length=9:=by
     unfold cZ;rw[h1,h2,h4,h5,hde,hb0];simp
    rw[e1,e2,hb];exact⟨rfl,fun h=>by cases h⟩
   | some q =>
    have hne:d.blocks≠[]:=fun e=>by rw[e]at hb;cases hb
    have hbl:d.blocks=d.blocks.dropLast++[q]:=by
     have:=List.dropLast_concat_getLast hne;rw[List.getLast?_eq_some_getLast hne]at hb
     cases hb
     exact this.symm
    have hb0:0<d.blocks.length:=List.length_pos_iff.2 hne
    have e2:cZ T (LS T) t.s (LS T).length=0:=by
     unfold cZ;rw[h1,h2,h4,h5,hde,show((d.blocks.length:Int)==0)=false by simp;omega];simp
    rw[e1,e2,hb];refine⟨rfl,fun _=>?_⟩;obtain⟨c1,c2⟩:=v6 (T:=T) (t:=t) hf he;have hs:∀o,aY o t.s=o-1:=fun o=>by rw[tA (dF h2)];rfl
    obtain⟨n1,n2,n3⟩:=Kb (S:=LS T) (s:=⟨gi T,T.length+1,T.length+1,t.s⟩) (U:=T++[t]) h4 (by show(t.s.toList==_)=false;rw[dI h2];decide) (by show(t.s.toList==_)=false;rw[dI h2];decide);have hn:=AT (S:=LS T) (s:=⟨gi T,T.length+1,T.length+1,t.s⟩) (U:=T++[t]) (by show(aE t.s||aH t.s)=false;rw[(kJ (dF h2)).1,(kJ (dF h2)).2.1];decide);have ha:=I.act;have hy:=I.typ;rw[hbl,List.map_append]at ha hy
    have hend:(cw d q).constants=d.constants/\(cw d q).variables=d.variables/\(cw d q).active=d.active.take q.1/\(cw d q).typed=d.typed.take q.2/\(cw d q).blocks=d.blocks.dropLast/\(cw d q).kind=d.kind/\(cw d q).symbols=d.symbols/\(cw d q).inProof=d.inProof/\(cw d q).labels=d.labels:=by
     unfold cw cU
     split <;> exact⟨rfl,rfl,rfl,rfl,rfl,rfl,rfl,rfl,rfl⟩
    obtain⟨d1,d2,d3,d4,d5,d6,d7,d8,d9⟩:=hend;simp only;rw[c1];refine⟨⟨?_,fun x=>?_,?_,?_⟩,OpE.none c2 (by rw[d6];exact hk) (by rw[d7];exact hsy) (by rw[d8];exact hip) ?_⟩
    ·rw[d1,eB,ed (fun j hj=>sB ok j hj),n2,List.append_nil];exact I.con
    ·rw[d2,eB,ed (fun j hj=>mY ok j hj),n1,List.append_nil];exact I.var x
    ·rw[d3,d5];exact ha.pop ⟨gi T,T.length+1,T.length+1,t.s⟩ hs (fun j hj=>mY ok j hj)
    ·rw[d4,d5];exact hy.pop ⟨gi T,T.length+1,T.length+1,t.s⟩ hs (fun j hj=>sC fo j hj)
    ·rw[d9,c1,qT _ ok,hn,List.append_nil];exact hl
 ·have h4:(t.s.toList == [36,118])=false:=by rw[dI h1];decide
  have he:bZ t.s=true:=by rw[(kJ (dF h1)).2.2];decide
  have e1:ay d t.s=(0,{ d with blocks:=d.blocks++[(d.active.length,d.typed.length)],rbl:=d.rbl++[d.sts.length] }):=by
   unfold ay;rw[h1,if_pos rfl]
  have e2:cZ T (LS T) t.s (LS T).length=0:=by
   unfold cZ;rw[h1];simp
  rw[e1,e2];refine⟨rfl,fun _=>?_⟩;obtain⟨c1,c2⟩:=v6 (T:=T) (t:=t) hf he;have hs:∀o,aY o t.s=o+1:=fun o=>by rw[tA (dF h1)];rfl
  obtain⟨n1,n2,n3⟩:=Kb (S:=LS T) (s:=⟨gi T,T.length+1,T.length+1,t.s⟩) (U:=T++[t]) h4 (by show(t.s.toList==_)=false;rw[dI h1];decide) (by show(t.s.toList==_)=false;rw[dI h1];decide);have hn:=AT (S:=LS T) (s:=⟨gi T,T.length+1,T.length+1,t.s⟩) (U:=T++[t]) (by show(aE t.s||aH t.s)=false;rw[(kJ (dF h1)).1,(kJ (dF h1)).2.1];decide);simp only;rw[c1];refine⟨⟨?_,fun x=>?_,?_,?_⟩,OpE.none c2 hk hsy hip ?_⟩
  ·rw[eB,ed (fun j hj=>sB ok j hj),n2,List.append_nil];exact I.con
  ·rw[eB,ed (fun j hj=>mY ok j hj),n1,List.append_nil];exact I.var x
  ·simp only[List.map_append,List.map_cons,List.map_nil]
   exact I.act.push ⟨gi T,T.length+1,T.length+1,t.s⟩ hs (fun j hj=>mY ok j hj) n1
  ·simp only[List.map_append,List.map_cons,List.map_nil]
   exact I.typ.push ⟨gi T,T.length+1,T.length+1,t.s⟩ hs (fun j hj=>sC fo j hj) n3
  ·rw[c1,qT _ ok,hn,List.append_nil];exact hl
theorem Hw(ok:jg T (LS T) (LS T).length)(fo:kG T (LS T) (LS T).length)(I:se T (LS T) d)(hf:gi T+1=T.length)(hsy:d.symbols=[])(hip:d.inProof=false)(hl:d.labels=jJ T (LS T)++[tS T (gi T)])(h0:((tS T (gi T)).toList == [])=false)(hnd:ge (tS T (gi T)) ⟨#[36]⟩=false) :
  dY (T++[t]) (gi T)=(t.s,T.length+1)/\(if(aE t.s||aH t.s)=true then(0:Int) else 14)=(aJ d t.s).1/\((aJ d t.s).1=0->se (T++[t]) (LS (T++[t])) (aJ d t.s).2/\OpE (T++[t]) (aJ d t.s).2):=by
 have hkey:dY (T++[t]) (gi T)=(t.s,T.length+1):=by
  unfold dY;rw[gJ T [t] _ (by omega),hnd,if_neg (by simp;omega),hf,qv,<-hf]
 have key:∀{n:Int},KeyK t.s.toList n->(aE t.s||aH t.s)=true->se (T++[t]) (LS (T++[t])) { d with kind:=n }/\OpE (T++[t]) { d with kind:=n }:=fun {n} hK ha=>by
  obtain⟨c1,c2⟩:=mN (T:=T) (t:=t) hK.dep.2.2;have hB:eE (T++[t]) (T.length+1) (T++[t]).length=[]:=by rw[my];simp
  have e3:tS (T++[t]) (gi (T++[t]))=tS T (gi T):=by rw[c2,gJ T [t] _ (by omega)]
  refine⟨by rw[c1];exact I.same ok fo rfl rfl rfl rfl rfl,OpE.body t.s (T.length+1) [] (by rw[c2];exact hkey) (by rw[c2];omega) (by simp) hK hB (by rw[gD];exact hip) hsy (fun h=>by rw[show({ d with kind:=n }:Db).inProof=d.inProof from rfl,hip]at h;cases h) ?_ (fun _=>by rw[e3];exact h0)⟩;rw[c1,ha,if_pos rfl,od ok,e3];exact hl
 refine⟨hkey,?_⟩;unfold aJ
 cases h1:(t.s.toList == [36,102])
 ·cases h2:(t.s.toList == [36,101])
  ·cases h3:(t.s.toList == [36,97])
   ·cases h4:(t.s.toList == [36,112])
    ·have ha:(aE t.s||aH t.s)=false:=by unfold aE aH;rw[h1,h2,h3,h4];rfl
     rw[ha];exact⟨rfl,fun h=>by simp at h⟩
    ·have ha:(aE t.s||aH t.s)=true:=by unfold aE aH;rw[h4];simp
     have hK:=KeyK.p;rw[<-dF h4]at hK;rw[ha];exact⟨rfl,fun _=>key hK ha⟩
   ·have ha:(aE t.s||aH t.s)=true:=by unfold aE aH;rw[h3];simp
    have hK:=KeyK.a;rw[<-dF h3]at hK;rw[ha];exact⟨rfl,fun _=>key hK ha⟩
  ·have ha:(aE t.s||aH t.s)=true:=by unfold aE aH;rw[h2];simp
   have hK:=KeyK.e;rw[<-dF h2]at hK;rw[ha];exact⟨rfl,fun _=>key hK ha⟩
 ·have ha:(aE t.s||aH t.s)=true:=by unfold aE aH;rw[h1];simp
  have hK:=KeyK.f;rw[<-dF h1]at hK;rw[ha];exact⟨rfl,fun _=>key hK ha⟩
end
theorem yO(l:List ByteArray):∀v x,aI (dA v l) x=(aI v x||aI l x):=by
 induction l with
 | nil=>intro v x;rw[gD,Bool.or_false];rfl
 | cons a l ih =>
  intro v x;have e:dA v (a :: l)=dA (if aI v a=true then v else v++[a]) l:=rfl;have e2:aI (a :: l) x=((a.toList==x.toList)||aI l x):=rfl;rw[e,ih,e2]
  by_cases h:aI v a=true
  ·rw[if_pos h]
   cases h2:(a.toList==x.toList)
   ·rw[Bool.false_or]
   ·have h3:aI v x=true:=by
     have:a.toList=x.toList:=by simpa using h2
     unfold aI at h ⊢;rw[<-this];exact h
    rw[h3];rfl
  ·rw[if_neg h,tR,qR,Bool.or_assoc]
section
variable {T:List Tk} {t:Tk} {d:Db}
theorem wk{l:List UInt8}(hK:KeyK l d.kind)(x:ByteArray)(p:Pl):aV d x p =
  if(x.toList == [36,46])=true then kN d p
  else if(x.toList == [36,61])=true/\(d.kind==5)=true/\d.inProof=false then bY d
  else if dw x=true then(8,d)
  else if d.inProof=true then(0,{ d with proof:=d.proof++[(x,p)] })
  else if(aU d x==0)=true then(0,{ d with symbols:=d.symbols++[x] })
  else(aU d x,d):=by
 have h1:(d.kind==0)=false/\(d.kind==6)=false:=by
  generalize d.kind=k at hK
  cases hK <;> exact⟨by decide,by decide⟩
 unfold aV;rw[h1.1,h1.2,if_neg (by simp),if_neg (by simp)]
theorem Kw{l:List UInt8}{k:Int}(hK:KeyK l k):(k==5)=(l == [36,112]):=by cases hK <;> decide
theorem F0{key:ByteArray}{B:List ByteArray}(I:se T (LS T) d)(hK:KeyK key.toList d.kind)(hsy:d.symbols=B)(hl:(aE key||aH key)=false->d.labels=jJ T (LS T))(x:ByteArray) :
  (if((key.toList == [36,99])||(key.toList == [36,118]))=true then iV T (LS T) x (LS T).length (key.toList == [36,99]) B else il T (LS T) key x (LS T).length B)=aU d x:=by
 have h1:=fun h=>zO I (hl h) x
 have h2:=fun h=>Fc I (hl h) x
 have h3:jG T (LS T) x (LS T).length=aI d.active x:=by rw[C9,<-I.act.l]
 have h4:dM T (LS T) x (LS T).length=aI d.constants x:=by rw[qK,<-I.con]
 have h5:decide (0<=fg T (LS T) x (LS T).length)=aI d.typed x:=by rw[DG,<-I.typ.l]
 obtain⟨a1,a2,-⟩:=kJ (k:=key) rfl;unfold iV il aU gZ g7 fz eJ;rw[hsy]
 have h6:(fg T (LS T) x (LS T).length<0) ↔ aI d.typed x=false:=by
  rw[<-h5];simp
 have h7:(0<=fg T (LS T) x (LS T).length) ↔ aI d.typed x=true:=by
  rw[<-h5];simp
 generalize hkl:key.toList=l at *;generalize d.kind=k at hK ⊢;simp only[h3,h4,h6,h7];rw[a1,a2]at h1 h2
 cases hK
 ·have h1:=h1 (by decide)
  rw[h1];simp only[show(([36,99]:List UInt8) == [36,99])=true from by decide,show((7:Int)==7)=true from rfl,Bool.true_or,if_true,Bool.true_and,Bool.not_true,Bool.false_and,Bool.false_eq_true,if_false]
  cases aI B x <;> cases dm d x <;> simp
 ·have h2:=h2 (by decide)
  rw[h3,h4]at h2;rw[h2];simp only[show(([36,118]:List UInt8) == [36,99])=false from by decide,show(([36,118]:List UInt8) == [36,118])=true from by decide,show((8:Int)==7)=false from rfl,show((8:Int)==8)=true from rfl,Bool.or_true,if_true,Bool.false_and,Bool.not_false,Bool.true_and,Bool.false_eq_true,if_false]
  cases aI B x <;> cases dE d x <;> simp
 ·simp only[show(([36,100]:List UInt8) == [36,99])=false from by decide,show(([36,100]:List UInt8) == [36,118])=false from by decide,show(([36,100]:List UInt8) == [36,100])=true from by decide,show((1:Int)==7)=false from rfl,show((1:Int)==8)=false from rfl,show((1:Int)==1)=true from rfl,Bool.or_false,if_true,Bool.false_eq_true,if_false]
 ·simp only[show(([36,102]:List UInt8) == [36,99])=false from by decide,show(([36,102]:List UInt8) == [36,118])=false from by decide,show(([36,102]:List UInt8) == [36,100])=false from by decide,show(([36,102]:List UInt8) == [36,102])=true from by decide,show((2:Int)==7)=false from rfl,show((2:Int)==8)=false from rfl,show((2:Int)==1)=false from rfl,show((2:Int)==2)=true from rfl,Bool.or_false,if_true,Bool.false_eq_true,if_false,beq_iff_eq]
 ·simp only[show(([36,101]:List UInt8) == [36,99])=false from by decide,show(([36,101]:List UInt8) == [36,118])=false from by decide,show(([36,101]:List UInt8) == [36,100])=false from by decide,show(([36,101]:List UInt8) == [36,102])=false from by decide,show((3:Int)==7)=false from rfl,show((3:Int)==8)=false from rfl,show((3:Int)==1)=false from rfl,show((3:Int)==2)=false from rfl,Bool.or_false,Bool.false_eq_true,if_false,beq_iff_eq]
 ·simp only[show(([36,97]:List UInt8) == [36,99])=false from by decide,show(([36,97]:List UInt8) == [36,118])=false from by decide,show(([36,97]:List UInt8) == [36,100])=false from by decide,show(([36,97]:List UInt8) == [36,102])=false from by decide,show((4:Int)==7)=false from rfl,show((4:Int)==8)=false from rfl,show((4:Int)==1)=false from rfl,show((4:Int)==2)=false from rfl,Bool.or_false,Bool.false_eq_true,if_false,beq_iff_eq]
 ·simp only[show(([36,112]:List UInt8) == [36,99])=false from by decide,show(([36,112]:List UInt8) == [36,118])=false from by decide,show(([36,112]:List UInt8) == [36,100])=false from by decide,show(([36,112]:List UInt8) == [36,102])=false from by decide,show((5:Int)==7)=false from rfl,show((5:Int)==8)=false from rfl,show((5:Int)==1)=false from rfl,show((5:Int)==2)=false from rfl,Bool.or_false,Bool.false_eq_true,if_false,beq_iff_eq]
theorem Kl{key:ByteArray}{B:List ByteArray}(hK:KeyK key.toList d.kind)(hip:d.inProof=aI B ⟨#[36,61]⟩)(hsy:d.symbols=B.takeWhile jE)(hpk:d.inProof=true->d.kind=5/\d.symbols≠[])(p:Pl):fV key B=(kN d p).1/\((kN d p).1=0->(kN d p).2={ bt d p with kind:=0,label:=⟨#[]⟩,symbols:=[],inProof:=false,proof:=[] }/\(d.kind=2->1<d.symbols.length)):=by
 have hB:d.inProof=false->d.symbols=B:=fun h=>by rw[hsy];exact sH B (by rw[<-hip];exact h)
 have hP:d.inProof=true->0<B.length/\0<d.symbols.length:=fun h=>by
  refine⟨?_,List.length_pos_iff.2 (hpk h).2⟩;rw[hip]at h
  cases B with
  | nil=>cases h
  | cons a B=>simp
 unfold fV kN lj;rw[<-hip];generalize hkl:key.toList=l at *;generalize hkk:d.kind=k at *;clear hsy hip
 cases hp:d.inProof
 ·rw[hB hp]
  generalize B.length=m
  cases hK <;> simp <;> (repeat' split) <;> simp_all <;> omega
 ·obtain⟨q1,q2⟩:=hP hp
  have hk5:=(hpk hp).1;subst hk5;generalize B.length=m at *;generalize d.symbols.length=m2 at *
  cases hK
  simp
  (repeat' split) <;> simp_all <;> omega
end
section
variable {T:List Tk} {t:Tk} {d:Db}
theorem Jh:∀{x:ByteArray},(x.toList == [36,46])=true->bZ x=true/\ge x ⟨#[36]⟩=true:=fun {x} h=>by
 rw[(kJ (dF h)).2.2,BG (dF h)];decide +kernel
theorem BD{key:ByteArray}{head:Nat}{B:List ByteArray}(ok:jg T (LS T) (LS T).length)(fo:kG T (LS T) (LS T).length)(I:se T (LS T) d)(hk:dY T (gi T)=(key,head))(hlt:gi T<head)(hh:head<=T.length)(hK:KeyK key.toList d.kind)(hB:eE T head T.length=B)
  (hsy:d.symbols=B.takeWhile jE) (hpk:d.inProof=true->d.kind=5/\d.symbols≠[]) (hl:d.labels=jJ T (LS T)++(if(aE key||aH key)=true then [tS T (gi T)] else [])) (h0:(aE key||aH key)=true->((tS T (gi T)).toList == [])=false)
  (ht:(t.s.toList == [36,46])=true) (p:Pl) (h2:d.kind=2->1<d.symbols.length) (hip:d.inProof=false->d.symbols=B) {d':Db} (hd':d'={ bt d p with kind:=0,label:=⟨#[]⟩,symbols:=[],inProof:=false,proof:=[] }) :
  se (T++[t]) (LS (T++[t])) d'/\OpE (T++[t]) d':=by
 obtain⟨he,-⟩:=Jh ht;obtain⟨c1,c2⟩:=pC T t;rw[if_pos he,tY hk hlt hh hK]at c1;rw[if_pos he]at c2;simp only at c1
 have hbody:bV (T++[t]) head=d.symbols:=by
  unfold bV;rw[List.drop_append_of_le_length hh,yc _ t (fun u hu=>?_) ht,hsy,<-hB,my];have:=Em T head (by omega) u hu;unfold bZ at this;simp only[Bool.or_eq_false_iff]at this;exact this.1.1
 have hdep:=hK.dep.1;obtain⟨s,hs⟩:∃s:Sm,s=⟨gi T,T.length+1,head,key⟩:=⟨_,rfl⟩
 rw[<-hs]at c1;have hsk:s.k=key:=by rw[hs]
 have hsh:s.h=head:=by rw[hs]
 have hsa:s.a=gi T:=by rw[hs]
 have v1:zT (T++[t]) (LS T++[s]) (LS T).length=if(key.toList == [36,118])=true then d.symbols else []:=by
  unfold zT;rw[mh,hsk,hsh,hbody]
 have v2:Dr (T++[t]) (LS T++[s]) (LS T).length=if(key.toList == [36,99])=true then d.symbols else []:=by
  unfold Dr;rw[mh,hsk,hsh,hbody]
 have v3:Dx (T++[t]) (LS T++[s]) (LS T).length=if(key.toList == [36,102])=true then [tS (T++[t]) (head+1)] else []:=by
  unfold Dx;rw[mh,hsk,hsh]
 have hlab:jJ (T++[t]) (LS T++[s])=d.labels:=by
  rw[qT s ok,hl]
  congr 1
  cases ha:(aE key||aH key)
  ·rw[if_neg (by simp)];exact AT (by rw[hsk];exact ha)
  ·have e:tS (T++[t]) s.a=tS T (gi T):=by rw[hsa,gJ T [t] _ (by omega)]
   rw[if_pos rfl,<-e];exact Jb (by rw[hsk];exact ha) (by rw[e];exact h0 ha)
 have hop:gi (T++[t])=(T++[t]).length:=by rw[c2];simp
 have dv:d'.constants=(bt d p).constants/\d'.variables=(bt d p).variables/\d'.active=(bt d p).active/\d'.typed=(bt d p).typed/\d'.blocks=(bt d p).blocks/\d'.labels=(bt d p).labels:=by
  rw[hd'];exact⟨rfl,rfl,rfl,rfl,rfl,rfl⟩
 obtain⟨f1,f2,f3,f4,f5,f6⟩:=dv;rw[c1]
 have fin:d'.constants=d.constants++(if(key.toList == [36,99])=true then d.symbols else [])->(∀x,aI d'.variables x=(aI d.variables x||aI (if(key.toList == [36,118])=true then d.symbols else []) x))->d'.active=d.active++(if(key.toList == [36,118])=true then d.symbols else [])->d'.typed=d.typed++(if(key.toList == [36,102])=true then [tS (T++[t]) (head+1)] else [])->d'.blocks=d.blocks->d'.labels=d.labels->se (T++[t]) (LS T++[s]) d'/\OpE (T++[t]) d':=fun g1 g2 g3 g4 g5 g6 =>
  ⟨I.close ok fo s (fun o=>by rw[hsk];exact hdep o) (by rw[v2];exact g1) (fun x=>by rw[v1];exact g2 x) (by rw[v1];exact g3) (by rw[v3];exact g4) g5,
   OpE.none hop (by rw[hd']) (by rw[hd']) (by rw[hd']) (by rw[c1,hlab];exact g6)⟩
 -- the seven keys
 have other:∀k:Int,d.kind=k->(k==7)=false->(k==8)=false->(k==2)=false->bt d p=nc d p:=fun k hk7 e7 e8 e2=>by
  unfold bt mX;rw[hk7,e7,e8,e2];simp
 generalize hkl:key.toList=l at *;generalize hkk:d.kind=k at *
 cases hK
 ·have e:bt d p={ d with constants:=d.constants++d.symbols }:=by unfold bt;rw[hkk];rfl
  rw[e]at f1 f2 f3 f4 f5 f6;exact fin (by rw[f1];rfl) (fun x=>by rw[f2];simp[gD]) (by rw[f3];simp) (by rw[f4];simp) f5 f6
 ·have e:bt d p=dP d d.symbols.length:=by unfold bt;rw[hkk];rfl
  rw[e]at f1 f2 f3 f4 f5 f6;unfold dP at f1 f2 f3 f4 f5 f6;exact fin (by rw[f1];simp) (fun x=>by rw[f2];simp only[List.take_length];rw[yO];rfl) (by rw[f3];rfl) (by rw[f4];simp) f5 f6
 ·have e:=other 1 rfl rfl rfl rfl
  rw[e]at f1 f2 f3 f4 f5 f6;unfold nc at f1 f2 f3 f4 f5 f6;exact fin (by rw[f1];simp) (fun x=>by rw[f2];simp[gD]) (by rw[f3];simp) (by rw[f4];simp) f5 f6
 ·have h2:=h2 rfl
  have hnp:d.inProof=false:=by
   cases h:d.inProof
   ·rfl
   ·exact absurd (hpk h).1 (by decide)
  have hsB:=hip hnp
  have e:bt d p=nc { d with typed:=d.typed++[d.symbols.getD 1 ⟨#[]⟩] } p:=by
   unfold bt mX;rw[hkk,if_neg (by decide),if_neg (by decide),if_pos ⟨rfl,h2⟩]
  have hg:d.symbols.getD 1 ⟨#[]⟩=tS (T++[t]) (head+1):=by
   have hlen:head+1<T.length:=by
    rw[hsB,<-hB,my,List.length_map,List.length_drop]at h2;omega
   rw[hsB,<-hB,my,gJ T [t] _ hlen];unfold tS;rw[List.getD_eq_getElem?_getD,List.getD_eq_getElem?_getD,List.getElem?_map,List.getElem?_drop,List.getElem?_eq_getElem hlen];rfl
  rw[e]at f1 f2 f3 f4 f5 f6;unfold nc at f1 f2 f3 f4 f5 f6;exact fin (by rw[f1];simp) (fun x=>by rw[f2];simp[gD]) (by rw[f3];simp) (by rw[f4,hg];rfl) f5 f6
 ·have e:=other 3 rfl rfl rfl rfl
  rw[e]at f1 f2 f3 f4 f5 f6;unfold nc at f1 f2 f3 f4 f5 f6;exact fin (by rw[f1];simp) (fun x=>by rw[f2];simp[gD]) (by rw[f3];simp) (by rw[f4];simp) f5 f6
 ·have e:=other 4 rfl rfl rfl rfl
  rw[e]at f1 f2 f3 f4 f5 f6;unfold nc at f1 f2 f3 f4 f5 f6;exact fin (by rw[f1];simp) (fun x=>by rw[f2];simp[gD]) (by rw[f3];simp) (by rw[f4];simp) f5 f6
 ·have e:=other 5 rfl rfl rfl rfl
  rw[e]at f1 f2 f3 f4 f5 f6;unfold nc at f1 f2 f3 f4 f5 f6;exact fin (by rw[f1];simp) (fun x=>by rw[f2];simp[gD]) (by rw[f3];simp) (by rw[f4];simp) f5 f6
theorem xG{key:ByteArray}{head:Nat}{B:List ByteArray}(ok:jg T (LS T) (LS T).length)(fo:kG T (LS T) (LS T).length)(I:se T (LS T) d)(hk:dY T (gi T)=(key,head))(hlt:gi T<head)(hh:head<=T.length)(hK:KeyK key.toList d.kind)(hB:eE T head T.length=B)
  (hl:d.labels=jJ T (LS T)++(if(aE key||aH key)=true then [tS T (gi T)] else [])) (h0:(aE key||aH key)=true->((tS T (gi T)).toList == [])=false) (he:bZ t.s=false) {d':Db} (e1:d'.constants=d.constants) (e2:d'.variables=d.variables) (e3:d'.active=d.active) (e4:d'.typed=d.typed) (e5:d'.blocks=d.blocks) (e6:d'.labels=d.labels) (e7:d'.kind=d.kind)
  (hip:d'.inProof=aI (B++[t.s]) ⟨#[36,61]⟩) (hsy:d'.symbols=(B++[t.s]).takeWhile jE) (hpk:d'.inProof=true->d'.kind=5/\d'.symbols≠[]):se (T++[t]) (LS (T++[t])) d'/\OpE (T++[t]) d':=by
 obtain⟨c1,c2⟩:=mN (T:=T) (t:=t) he;have e3':tS (T++[t]) (gi (T++[t]))=tS T (gi T):=by rw[c2,gJ T [t] _ (by omega)]
 refine⟨by rw[c1];exact I.same ok fo e1 e2 e3 e4 e5,OpE.body key head (B++[t.s]) (by rw[c2];exact tY hk hlt hh hK) (by rw[c2];exact hlt) (by simp;omega) (by rw[e7];exact hK) (by rw[FR t head hh,hB]) hip hsy hpk ?_ (fun h=>by rw[e3'];exact h0 h)⟩;rw[c1,od ok,e3',e6];exact hl
theorem E3{key:ByteArray}{head:Nat}{B:List ByteArray}(ok:jg T (LS T) (LS T).length)(fo:kG T (LS T) (LS T).length)(I:se T (LS T) d)(hk:dY T (gi T)=(key,head))(hlt:gi T<head)(hh:head<=T.length)(hK:KeyK key.toList d.kind)(hB:eE T head T.length=B)(hip:d.inProof=aI B ⟨#[36,61]⟩)
  (hsy:d.symbols=B.takeWhile jE) (hpk:d.inProof=true->d.kind=5/\d.symbols≠[]) (hl:d.labels=jJ T (LS T)++(if(aE key||aH key)=true then [tS T (gi T)] else [])) (h0:(aE key||aH key)=true->((tS T (gi T)).toList == [])=false) (p:Pl) :
  kp T (LS T) key t.s (LS T).length B=(aV d t.s p).1/\((aV d t.s p).1=0->se (T++[t]) (LS (T++[t])) (aV d t.s p).2/\OpE (T++[t]) (aV d t.s p).2):=by
 have hBs:d.inProof=false->d.symbols=B:=fun h=>by rw[hsy];exact sH B (by rw[<-hip];exact h)
 have eqT:(⟨#[36,61]⟩:ByteArray).toList=[36,61]:=by decide +kernel
 rw[wk hK];unfold kp
 cases h1:(t.s.toList == [36,46])
 ·simp only[Bool.false_eq_true,if_false]
  rw[<-hip,<-Kw hK]
  cases h2:((t.s.toList == [36,61])&&((d.kind==5) && !d.inProof))
  ·have h2':¬((t.s.toList == [36,61])=true/\(d.kind==5)=true/\d.inProof=false):=fun h=>by
    rw[h.1,h.2.1,h.2.2]at h2;cases h2
   simp only[Bool.false_eq_true,if_false];rw[if_neg h2',hU]
   cases h3:dw t.s
   ·have hne:bZ t.s=false:=by
     cases he:bZ t.s
     ·rfl
     ·have:=(kz he).1
      rw[hU,h3]at this;cases this
    have hnq:(t.s.toList == [36,61])=false:=by
     cases he:(t.s.toList == [36,61])
     ·rfl
     ·have e:=BG (dF he)
      rw[hU,h3]at e;exact absurd e (by decide +kernel)
    simp only[Bool.false_eq_true,if_false]
    cases h4:d.inProof
    ·have hs:=hBs h4
     simp only[Bool.false_eq_true,if_false];have hc:=F0 I hK hs (fun h=>by rw[hl,if_neg (by rw[h];simp),List.append_nil]) t.s;rw[hc]
     have hp':aI (B++[t.s]) ⟨#[36,61]⟩=false:=by
      rw[tR,qR,<-hip,h4,eqT,hnq];rfl
     cases h5:(aU d t.s==0)
     ·simp only[Bool.false_eq_true,if_false]
      exact⟨trivial,fun h=>by rw[h]at h5;cases h5⟩
     ·rw[if_pos rfl]
      refine⟨by simpa using h5,fun _=>xG ok fo I hk hlt hh hK hB hl h0 hne rfl rfl rfl rfl rfl rfl rfl hp'.symm ?_ (fun h=>Bool.noConfusion h)⟩;rw[sH _ hp'];simp only;rw[hs]
    ·have hb:aI B ⟨#[36,61]⟩=true:=by rw[<-hip];exact h4
     rw[if_pos rfl,if_pos rfl];exact⟨rfl,fun _=>xG ok fo I hk hlt hh hK hB hl h0 hne rfl rfl rfl rfl rfl rfl rfl (by rw[tR,hb,Bool.true_or]) (by rw[Ih _ _ hb];exact hsy) (fun _=>hpk h4)⟩
   ·rw[if_pos rfl,if_pos rfl]
    exact⟨rfl,fun h=>by cases h⟩
  ·simp only[Bool.and_eq_true,Bool.not_eq_true']at h2
   obtain⟨g1,g2,g3⟩:=h2;have hs:=hBs g3;rw[if_pos rfl,if_pos (show(t.s.toList == [36,61])=true/\(d.kind==5)=true/\d.inProof=false from⟨g1,g2,g3⟩)];unfold bY;rw[hs]
   by_cases hz:B.length=0
   ·rw[if_pos hz,if_pos hz]
    exact⟨rfl,fun h=>by cases h⟩
   ·rw[if_neg hz,if_neg hz]
    have hne:bZ t.s=false:=by rw[(kJ (dF g1)).2.2];decide
    have hB0:aI B ⟨#[36,61]⟩=false:=by rw[<-hip];exact g3
    have hp':aI (B++[t.s]) ⟨#[36,61]⟩=true:=by rw[tR,qR,eqT,g1,Bool.or_true]
    refine⟨rfl,fun _=>xG ok fo I hk hlt hh hK hB hl h0 hne rfl rfl rfl rfl rfl rfl rfl hp'.symm ?_ (fun _=>⟨by simpa using g2,?_⟩)⟩
    ·have hall:=Gr B hB0
     rw[List.takeWhile_append_of_pos hall,List.takeWhile_cons_of_neg (by unfold jE;rw[g1];simp),List.append_nil]
    ·simp only
     intro e;rw[e]at hz;exact hz rfl
 ·rw[if_pos rfl,if_pos rfl]
  obtain⟨q1,q2⟩:=Kl hK hip hsy hpk p;refine⟨q1,fun h=>?_⟩;obtain⟨q3,q4⟩:=q2 h;exact BD ok fo I hk hlt hh hK hB hsy hpk hl h0 h1 p q4 hBs q3
theorem nD{x:ByteArray}(h1:(x.toList == [36,123])=false)(h2:(x.toList == [36,125])=false)(o:Int):aY o x=o:=by
 unfold aY;rw[h1,h2];rfl
theorem wT{x:ByteArray}(h:dw x=false)(o:Int):aY o x=o:=by
 have hne:bZ x=false:=by
  cases he:bZ x
  ·rfl
  ·have:=(kz he).1
   rw[hU,h]at this;cases this
 unfold bZ at hne;simp only[Bool.or_eq_false_iff]at hne;exact nD hne.1.2 hne.2 o
theorem tw(d:Db)(p:Pl):(bt d p).blocks=d.blocks:=by
 unfold bt dP nc mX
 split
 ·rfl
 ·split
  ·rfl
  ·split <;> rfl
theorem zM(o:OpE T d)(x:ByteArray)(p:Pl)(h:(aV d x p).1=0):((aV d x p).2.blocks.length:Int)=aY (d.blocks.length:Int) x:=by
 rcases o with ⟨hf,hk,hsy,hip,hl⟩ | ⟨hf,hk,hsy,hip,hl,hne,hnd⟩ | ⟨key,head,B,hk,hlt,hh,hK,hB,hip,hsy,hpk,hl,h0⟩
 ·have e:aV d x p=ay d x:=by unfold aV;rw[hk];rfl
  rw[e]at h ⊢
  cases h1:(x.toList == [36,123])
  ·cases h2:(x.toList == [36,125])
   ·rw[nD h1 h2]
    unfold ay bH;rw[h1,h2,if_neg (by simp),if_neg (by simp)]
    repeat' split
    all_goals rfl
   ·have e1:ay d x=(match d.blocks.getLast? with | none=>(9,d) | some p=>(0,cw d p)):=by
     unfold ay;rw[h1,h2,if_neg (by simp),if_pos rfl];rfl
    rw[e1]at h ⊢
    cases hb:d.blocks.getLast? with
    | none=>rw[hb]at h;cases h
    | some q =>
     have hpos:0<d.blocks.length:=by
      rw[List.length_pos_iff];intro e;rw[e]at hb;cases hb
     have e2:(cw d q).blocks=d.blocks.dropLast:=by
      unfold cw cU
      split <;> rfl
     simp only;rw[e2,tA (dF h2),List.length_dropLast]
     show((d.blocks.length-1:Nat):Int)=(d.blocks.length:Int)-1
     omega
  ·have e1:ay d x=(0,{ d with blocks:=d.blocks++[(d.active.length,d.typed.length)],rbl:=d.rbl++[d.sts.length] }):=by
    unfold ay;rw[h1,if_pos rfl]
   rw[e1,tA (dF h1)];simp only[List.length_append,List.length_cons,List.length_nil]
   show((d.blocks.length+(0+1):Nat):Int)=(d.blocks.length:Int)+1
   omega
 ·have e:aV d x p=aJ d x:=by unfold aV;rw[hk];rfl
  rw[e]at h ⊢
  have hx:aY (d.blocks.length:Int) x=(d.blocks.length:Int):=by
   refine nD ?_ ?_ _
   ·cases hh:(x.toList == [36,123])
    ·rfl
    ·exfalso
     unfold aJ at h;rw[dI hh,dI hh,dI hh,dI hh,if_neg (by decide),if_neg (by decide),if_neg (by decide),if_neg (by decide)]at h
     cases h
   ·cases hh:(x.toList == [36,125])
    ·rfl
    ·exfalso
     unfold aJ at h;rw[dI hh,dI hh,dI hh,dI hh,if_neg (by decide),if_neg (by decide),if_neg (by decide),if_neg (by decide)]at h
     cases h
  rw[hx];unfold aJ
  repeat' split
  all_goals rfl
 ·rw[wk hK]at h ⊢
  cases h1:(x.toList == [36,46])
  ·rw[h1,if_neg (by simp)]at h
   rw[if_neg (by simp)]
   by_cases h2:(x.toList == [36,61])=true/\(d.kind==5)=true/\d.inProof=false
   ·rw[if_pos h2,nD (by rw[dI h2.1];decide) (by rw[dI h2.1];decide)]
    unfold bY
    split <;> rfl
   ·rw[if_neg h2]at h ⊢
    cases h3:dw x
    ·rw[wT h3,if_neg (by simp)]
     repeat' split
     all_goals rfl
    ·rw[h3,if_pos rfl]at h;cases h
  ·rw[if_pos rfl,nD (by rw[dI h1];decide) (by rw[dI h1];decide)]
   unfold kN
   split
   ·rfl
   ·split
    ·rfl
    ·simp only;rw[tw]
structure si(T:List Tk)(d:Db):Prop where
 e:se T (LS T) d
 o:OpE T d
 u:∀j,j<T.length->aZ T (LS T) j=0
 b:iy T=(d.blocks.length:Int)
theorem yq(T:List Tk)(t:Tk):iy (T++[t])=aY (iy T) t.s:=by
 unfold iy;rw[List.foldl_append];rfl
theorem si.step(I:si T d)(hT:T.length<=100000)(hx:(t.s.toList == [])=false)(p:Pl):aZ (T++[t]) (LS (T++[t])) T.length=(aV d t.s p).1/\((aV d t.s p).1=0->si (T++[t]) (aV d t.s p).2):=by
 obtain⟨ok,fo⟩:=Bf T hT I.u;have hb:=yh T t hT I.u
 have key:aZ (T++[t]) (LS (T++[t])) T.length=(aV d t.s p).1/\((aV d t.s p).1=0->se (T++[t]) (LS (T++[t])) (aV d t.s p).2/\OpE (T++[t]) (aV d t.s p).2):=by
  rcases I.o with ⟨hf,hk,hsy,hip,hl⟩ | ⟨hf,hk,hsy,hip,hl,hne,hnd⟩ | ⟨key,head,B,hk,hlt,hh,hK,hB,hip,hsy,hpk,hl,h0⟩
  ·have e:aV d t.s p=ay d t.s:=by unfold aV;rw[hk];rfl
   rw[hb,if_pos hf.symm,e];exact BE ok fo I.e hf hk hsy hip hl hx
  ·have e:aV d t.s p=aJ d t.s:=by unfold aV;rw[hk];rfl
   obtain⟨q1,q2⟩:=Hw (t:=t) ok fo I.e hf hsy hip hl hne hnd;rw[hb,if_neg (by omega),q1,if_pos (by simp),e];exact q2
  ·rw[hb,if_neg (by omega),tY hk hlt hh hK,if_neg (by simp only;omega)]
   simp only;rw[hB];exact E3 ok fo I.e hk hlt hh hK hB hip hsy hpk hl h0 p
 refine⟨key.1,fun h=>?_⟩;obtain⟨k1,k2⟩:=key.2 h;refine⟨k1,k2,fun j hj=>?_,?_⟩
 ·rw[List.length_append,List.length_cons,List.length_nil]at hj
  by_cases e:j<T.length
  ·exact pa T [t] hT I.u j e
  ·have e:j=T.length:=by omega
   rw[e,key.1];exact h
 ·rw[yq,I.b,zM I.o t.s p h]
theorem CL(T:List Tk)(h:0<T.length):∃u,T.getLast?=some u/\u.s=tS T (T.length-1):=by
 rw[List.getLast?_eq_getElem?,List.getElem?_eq_getElem (by omega)];refine⟨_,rfl,?_⟩;unfold tS;rw[List.getD_eq_getElem?_getD,List.getElem?_eq_getElem (by omega)];rfl
theorem si.open(I:si T d):je d=!cI T:=by
 have p:=fL T;have hb:=I.b
 have later:gi T<T.length->cI T=false:=fun h=>by
  obtain⟨u,h1,h2⟩:=CL T (by omega);have:=p.n (T.length-1) (by unfold gi at h;omega) (by omega);unfold cI;rw[h1];simp only;rw[h2,this];rfl
 unfold je
 rcases I.o with ⟨hf,hk,hsy,hip,hl⟩ | ⟨hf,hk,hsy,hip,hl,hne,hnd⟩ | ⟨key,head,B,hk,hlt,hh,hK,hB,hip,hsy,hpk,hl,h0⟩
 ·rw[hk]
  have e0:(bne (0:Int) 0)=false:=rfl;rw[e0,Bool.false_or]
  by_cases hT:T.length=0
  ·have e:T=[]:=List.eq_nil_of_length_eq_zero hT
   rw[e]at hb ⊢
   have:d.blocks.length=0:=by
    have h:iy []=0:=rfl;omega
   rw[this];rfl
  ·obtain⟨u,h1,h2⟩:=CL T (by omega)
   have hn:0<(LS T).length:=by
    rcases Nat.eq_zero_or_pos (LS T).length with h | h
    ·have:=Bg T
     rw[h]at this;unfold ji at this;rw[if_neg (by omega)]at this;omega
    ·exact h
   have hz:(au (LS T) ((LS T).length-1)).z=T.length:=by
    have:=Bg T;unfold ji at this;rw[if_pos hn]at this;omega
   have he:=(p.s ((LS T).length-1) (by omega)).1.e;rw[hz]at he;unfold cI;rw[h1];simp only;rw[h2,he,Bool.true_and,hb]
   by_cases hz:d.blocks.length=0
   ·rw[hz];rfl
   ·have h3:((d.blocks.length:Int)==0)=false:=beq_false_of_ne (by omega)
    rw[h3,decide_eq_true (show 0<d.blocks.length by omega)];rfl
 ·rw[hk,later (by omega)];rfl
 ·rw[later (by omega)]
  have:(d.kind != 0)=true:=by
   generalize d.kind=k at hK ⊢;generalize key.toList=l at hK
   cases hK <;> rfl
  rw[this];rfl
theorem Gp{d:Db}(h:d=⟨[],[],[],[],[],[],[],[],0,⟨#[]⟩,[],false,[]⟩):si [] d:=by
 subst h;refine⟨⟨rfl,fun x=>rfl,⟨rfl,rfl,fun i hi=>(by simp at hi)⟩,⟨rfl,rfl,fun i hi=>(by simp at hi)⟩⟩,OpE.none rfl rfl rfl rfl rfl,fun j hj=>(by simp at hj),rfl⟩
end
end Go.Proofs.YtpddjjabfbfifaaGreat

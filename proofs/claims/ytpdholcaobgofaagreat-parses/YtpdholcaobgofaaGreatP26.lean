import Derived.Test.YtpdholcaobgofaaGreatP19
import Derived.Test.YtpdholcaobgofaaGreatP25
namespace Go.Proofs.YtpdholcaobgofaaGreat
open Go.RowKit Tryz
open Value IntKind Ending
set_option maxHeartbeats 0
variable{o:List UInt8}{D:Int}{l:Xr}{f:Xs}{w x:Nat}{v:Db}{b:List Sm}{I:Sm}{H:List St}{y:Xu}{i:St}(k:List Sm)(L:Sm)
theorem GI(l:Xs):∀v x,aN (dH v l) x=(aN v x||aN l x):=by
 induction l with
 | nil=>intro v x;rw[j7,Y8];rfl
 | cons a l f =>
  intro v x;have e:dH v (a :: l)=dH (if aN v a=true then v else v++[a]) l:=rfl;have b:aN (a :: l) x=((a.toList==x.toList)||aN l x):=rfl;rw[e,f,b];by_cases h:aN v a=true
  ·rw[XA h];cases c:(a.toList==x.toList)
   ·rw[Y7]
   ·have d:aN v x=true:=by
     have:a.toList=x.toList:=(by simpa using c);unfold aN at h ⊢;rw[<-this];exact h
    rw[d];rfl
  ·rw[Xz h,As,vh,Z3]
section
variable {T:List Tk} {t:Tk} {d:Db}
theorem qS(b:fC o d.Zby)(x:Xr)(p:Pl):aY d x p =
  if(x.toList == [36,46])=true then l9 d p
  else if(x.toList == [36,61])=true/\(d.Zby==5)=true/\d.Zbi=false then cr d
  else if dO x=true then(8,d)
  else if d.Zbi=true then(0,{ d with Zbp:=d.Zbp++[(x,p)] })
  else if(bh d x==0)=true then(0,{ d with Zbe:=d.Zbe++[x] })
  else(bh d x,d):=by
 have a:(d.Zby==0)=false/\(d.Zby==6)=false:=by
  generalize d.Zby=k at b
  (rcases b with ⟨rfl,rfl⟩ | ⟨rfl,rfl⟩ | ⟨rfl,rfl⟩ | ⟨rfl,rfl⟩ | ⟨rfl,rfl⟩ | ⟨rfl,rfl⟩ | ⟨rfl,rfl⟩) <;> exact⟨by decide,by decide⟩
 unfold aY;rw[a.1,a.2,Xz (by simp),Xz (by simp)]
theorem zaK(a:fC o D):(D==5)=(o == [36,112]):=by(rcases a with ⟨rfl,rfl⟩ | ⟨rfl,rfl⟩ | ⟨rfl,rfl⟩ | ⟨rfl,rfl⟩ | ⟨rfl,rfl⟩ | ⟨rfl,rfl⟩ | ⟨rfl,rfl⟩) <;> decide
theorem Q4(I:vL T (aj T) d)(j:fC l.toList d.Zby)(c:d.Zbe=f)(m:(aG l||aK l)=false->d.Zbm=lq T (aj T))(x:Xr) :
  (if((l.toList == [36,99])||(l.toList == [36,118]))=true then lJ T (aj T) x (aj T).length (l.toList == [36,99]) f else kO T (aj T) l x (aj T).length f)=bh d x:=by
 have b:=fun h=>IY I (m h) x;have a:=fun h=>PY I (m h) x;have e:mH T (aj T) x (aj T).length=aN d.Zbn x:=by rw[Ni,<-I.act.l]
 have g:fG T (aj T) x (aj T).length=aN d.Zbg x:=by rw[xp,<-I.con]
 have i:decide (0<=iD T (aj T) x (aj T).length)=aN d.Zbq x:=by rw[N3,<-I.typ.l]
 obtain⟨n,o,-⟩:=kQ (k:=l) rfl;unfold lJ kO bh kl iZ fF gK;rw[c];have p:(iD T (aj T) x (aj T).length<0) ↔ aN d.Zbq x=false:=by
  rw[<-i];simp
 have q:(0<=iD T (aj T) x (aj T).length) ↔ aN d.Zbq x=true:=by
  rw[<-i];simp
 generalize hkl:l.toList=r at *;generalize d.Zby=k at j ⊢;simp only[e,g,p,q];rw[n,o]at b a;rcases j with ⟨rfl,rfl⟩ | ⟨rfl,rfl⟩ | ⟨rfl,rfl⟩ | ⟨rfl,rfl⟩ | ⟨rfl,rfl⟩ | ⟨rfl,rfl⟩ | ⟨rfl,rfl⟩
 ·have b:=b (by decide);rw[b];simp only[show(([36,99]:List UInt8) == [36,99])=true from by decide,show((7:Int)==7)=true from rfl,Bool.true_or,if_true,Bool.true_and,Bool.not_true,Bool.false_and,Bool.false_eq_true,if_false];cases aN f x <;> cases eB d x <;> simp
 ·have a:=a (by decide);rw[e,g]at a;rw[a];simp only[show(([36,118]:List UInt8) == [36,99])=false from by decide,show(([36,118]:List UInt8) == [36,118])=true from by decide,show((8:Int)==7)=false from rfl,show((8:Int)==8)=true from rfl,Bool.or_true,if_true,Bool.false_and,Bool.not_false,Bool.true_and,Bool.false_eq_true,if_false];cases aN f x <;> cases eI d x <;> simp
 ·simp only[show(([36,100]:List UInt8) == [36,99])=false from by decide,show(([36,100]:List UInt8) == [36,118])=false from by decide,show(([36,100]:List UInt8) == [36,100])=true from by decide,show((1:Int)==7)=false from rfl,show((1:Int)==8)=false from rfl,show((1:Int)==1)=true from rfl,Bool.or_false,if_true,Bool.false_eq_true,if_false]
 ·simp only[show(([36,102]:List UInt8) == [36,99])=false from by decide,show(([36,102]:List UInt8) == [36,118])=false from by decide,show(([36,102]:List UInt8) == [36,100])=false from by decide,show(([36,102]:List UInt8) == [36,102])=true from by decide,show((2:Int)==7)=false from rfl,show((2:Int)==8)=false from rfl,show((2:Int)==1)=false from rfl,show((2:Int)==2)=true from rfl,Bool.or_false,if_true,Bool.false_eq_true,if_false,beq_iff_eq]
 ·simp only[show(([36,101]:List UInt8) == [36,99])=false from by decide,show(([36,101]:List UInt8) == [36,118])=false from by decide,show(([36,101]:List UInt8) == [36,100])=false from by decide,show(([36,101]:List UInt8) == [36,102])=false from by decide,show((3:Int)==7)=false from rfl,show((3:Int)==8)=false from rfl,show((3:Int)==1)=false from rfl,show((3:Int)==2)=false from rfl,Bool.or_false,Bool.false_eq_true,if_false,beq_iff_eq]
 ·simp only[show(([36,97]:List UInt8) == [36,99])=false from by decide,show(([36,97]:List UInt8) == [36,118])=false from by decide,show(([36,97]:List UInt8) == [36,100])=false from by decide,show(([36,97]:List UInt8) == [36,102])=false from by decide,show((4:Int)==7)=false from rfl,show((4:Int)==8)=false from rfl,show((4:Int)==1)=false from rfl,show((4:Int)==2)=false from rfl,Bool.or_false,Bool.false_eq_true,if_false,beq_iff_eq]
 ·simp only[show(([36,112]:List UInt8) == [36,99])=false from by decide,show(([36,112]:List UInt8) == [36,118])=false from by decide,show(([36,112]:List UInt8) == [36,100])=false from by decide,show(([36,112]:List UInt8) == [36,102])=false from by decide,show((5:Int)==7)=false from rfl,show((5:Int)==8)=false from rfl,show((5:Int)==1)=false from rfl,show((5:Int)==2)=false from rfl,Bool.or_false,Bool.false_eq_true,if_false,beq_iff_eq]
theorem zaq(j:fC l.toList d.Zby)(b:d.Zbi=aN f ⟨#[36,61]⟩)(e:d.Zbe=f.takeWhile kL)(c:d.Zbi=true->d.Zby=5/\d.Zbe≠[])(p:Pl):jJ l f=(l9 d p).1/\((l9 d p).1=0->(l9 d p).2={ aW d p with Zby:=0,Zbz:=⟨#[]⟩,Zbe:=[],Zbi:=false,Zbp:=[] }/\(d.Zby=2->1<d.Zbe.length)):=by
 have o:d.Zbi=false->d.Zbe=f:=fun h=>by rw[e];exact wo f (by rw[<-b];exact h)
 have q:d.Zbi=true->0<f.length/\0<d.Zbe.length:=fun h=>by
  refine⟨?_,Zaf.2 (c h).2⟩;rw[b]at h;cases f with
  | nil=>cases h
  | cons a f=>simp
 unfold jJ l9 oe;rw[<-b];generalize hkl:l.toList=r at *;generalize hkk:d.Zby=k at *;clear e b;cases i:d.Zbi
 ·rw[o i];generalize f.length=m
  (rcases j with ⟨rfl,rfl⟩ | ⟨rfl,rfl⟩ | ⟨rfl,rfl⟩ | ⟨rfl,rfl⟩ | ⟨rfl,rfl⟩ | ⟨rfl,rfl⟩ | ⟨rfl,rfl⟩) <;> simp <;> (repeat' split) <;> simp_all <;> omega
 ·obtain⟨t,u⟩:=q i;have g:=(c i).1;subst g;generalize f.length=m at *;generalize d.Zbe.length=s at *;rcases j with ⟨-,h⟩ | ⟨-,h⟩ | ⟨-,h⟩ | ⟨-,h⟩ | ⟨-,h⟩ | ⟨-,h⟩ | ⟨rfl,-⟩
  all_goals first | (exfalso;revert h;decide) | skip
  simp
  (repeat' split) <;> simp_all <;> omega
end
section
variable {T:List Tk} {t:Tk} {d:Db}
theorem EI:∀{x:Xr},(x.toList == [36,46])=true->cD x=true/\jC x ⟨#[36]⟩=true:=fun {x} h=>by
 rw[(kQ (dF h)).2.2,Lp (dF h)];decide +kernel
theorem Ln(Z:jF T (aj T) (aj T).length)(fo:oi T (aj T) (aj T).length)(I:vL T (aj T) d)(hk:eQ T (fL T)=(l,w))(O:fL T<w)(X:w<=T.length)(K:fC l.toList d.Zby)(J:fM T w T.length=f)(U:d.Zbe=f.takeWhile kL)(R:d.Zbi=true->d.Zby=5/\d.Zbe≠[])(hl:d.Zbm=lq T (aj T)++(if(aG l||aK l)=true then [tS T (fL T)] else []))(h0:(aG l||aK l)=true->((tS T (fL T)).toList == [])=false)(Y:(t.s.toList == [36,46])=true)(p:Pl)(G:d.Zby=2->1<d.Zbe.length)(M:d.Zbi=false->d.Zbe=f)(z:v={ aW d p with Zby:=0,Zbz:=⟨#[]⟩,Zbe:=[],Zbi:=false,Zbp:=[] }) :
  vL (T++[t]) (aj (T++[t])) v/\xb (T++[t]) v:=by
 obtain⟨W,-⟩:=EI Y;obtain⟨C,V⟩:=po T t;rw[XA W,qF hk O X K]at C;rw[XA W]at V;simp only at C;have y:bC (T++[t]) w=d.Zbe:=by
  unfold bC;rw[YI X,vU _ t (fun u hu=>?_) Y,U,<-J,nD];have:=xL T w (by omega) u hu;unfold cD at this;simp only[Bool.or_eq_false_iff]at this;exact this.1.1
 have D:=K.dep.1;obtain⟨s,H⟩:∃s:Sm,s=⟨fL T,T.length+1,w,l⟩:=⟨_,rfl⟩
 rw[<-H]at C;have r:s.k=l:=by rw[H]
 have B:s.h=w:=by rw[H]
 have S:s.a=fL T:=by rw[H]
 have v1:I9 (T++[t]) (aj T++[s]) (aj T).length=if(l.toList == [36,118])=true then d.Zbe else []:=by
  unfold I9;rw[mu,r,B,y]
 have v2:NO (T++[t]) (aj T++[s]) (aj T).length=if(l.toList == [36,99])=true then d.Zbe else []:=by
  unfold NO;rw[mu,r,B,y]
 have v3:Mm (T++[t]) (aj T++[s]) (aj T).length=if(l.toList == [36,102])=true then [tS (T++[t]) (w+1)] else []:=by
  unfold Mm;rw[mu,r,B]
 have E:lq (T++[t]) (aj T++[s])=d.Zbm:=by
  rw[xH s Z,hl];congr 1;cases L:(aG l||aK l)
  ·rw[Xz (by simp)];exact Kd (by rw[r];exact L)
  ·have e:tS (T++[t]) s.a=tS T (fL T):=(by rw[S,gI T [t] _ (by omega)]);rw[XA rfl,<-e];exact Vz (by rw[r];exact L) (by rw[e];exact h0 L)
 have Q:fL (T++[t])=(T++[t]).length:=by rw[V];simp
 have dv:v.Zbg=(aW d p).Zbg/\v.Zbh=(aW d p).Zbh/\v.Zbn=(aW d p).Zbn/\v.Zbq=(aW d p).Zbq/\v.ZbA=(aW d p).ZbA/\v.Zbm=(aW d p).Zbm:=by
  rw[z];exact⟨rfl,rfl,rfl,rfl,rfl,rfl⟩
 obtain⟨b,c,g,i,j,m⟩:=dv;rw[C];have q:v.Zbg=d.Zbg++(if(l.toList == [36,99])=true then d.Zbe else [])->(∀x,aN v.Zbh x=(aN d.Zbh x||aN (if(l.toList == [36,118])=true then d.Zbe else []) x))->v.Zbn=d.Zbn++(if(l.toList == [36,118])=true then d.Zbe else [])->v.Zbq=d.Zbq++(if(l.toList == [36,102])=true then [tS (T++[t]) (w+1)] else [])->v.ZbA=d.ZbA->v.Zbm=d.Zbm->vL (T++[t]) (aj T++[s]) v/\xb (T++[t]) v:=fun g1 g2 g3 g4 g5 g6 =>
  ⟨I.close Z fo s (fun o=>by rw[r];exact D o) (by rw[v2];exact g1) (fun x=>by rw[v1];exact g2 x) (by rw[v1];exact g3) (by rw[v3];exact g4) g5,
   xb.none Q (by rw[z]) (by rw[z]) (by rw[z]) (by rw[C,E];exact g6)⟩
 -- the seven keys
 have n:∀k:Int,d.Zby=k->(k==7)=false->(k==8)=false->(k==2)=false->aW d p=om d p:=fun k N e7 e8 e2=>by
  unfold aW jg;rw[N,e7,e8,e2];simp
 generalize hkl:l.toList=ag at *;generalize hkk:d.Zby=k at *;rcases K with ⟨rfl,rfl⟩ | ⟨rfl,rfl⟩ | ⟨rfl,rfl⟩ | ⟨rfl,rfl⟩ | ⟨rfl,rfl⟩ | ⟨rfl,rfl⟩ | ⟨rfl,rfl⟩
 ·have e:aW d p={ d with Zbg:=d.Zbg++d.Zbe }:=by unfold aW;rw[hkk];rfl
  rw[e]at b c g i j m;exact q (by rw[b];rfl) (fun x=>by rw[c];simp[j7]) (by rw[g];simp) (by rw[i];simp) j m
 ·have e:aW d p=eK d d.Zbe.length:=by unfold aW;rw[hkk];rfl
  rw[e]at b c g i j m;unfold eK at b c g i j m;exact q (by rw[b];simp) (fun x=>by rw[c];simp only[List.take_length];rw[GI];rfl) (by rw[g];rfl) (by rw[i];simp) j m
 ·have e:=n 1 rfl rfl rfl rfl;rw[e]at b c g i j m;unfold om at b c g i j m;exact q (by rw[b];simp) (fun x=>by rw[c];simp[j7]) (by rw[g];simp) (by rw[i];simp) j m
 ·have G:=G rfl;have P:d.Zbi=false:=by
   cases h:d.Zbi
   ·rfl
   ·exact absurd (R h).1 (by decide)
  have F:=M P;have e:aW d p=om { d with Zbq:=d.Zbq++[d.Zbe.getD 1 ⟨#[]⟩] } p:=by
   unfold aW jg;rw[hkk,Xz (by decide),Xz (by decide),XA ⟨rfl,G⟩]
  have hg:d.Zbe.getD 1 ⟨#[]⟩=tS (T++[t]) (w+1):=by
   have A:w+1<T.length:=by
    rw[F,<-J,nD,XZ,Ym]at G;omega
   rw[F,<-J,nD,gI T [t] _ A];unfold tS;rw[Xw,Xw,Yi,Zb,Xv A];rfl
  rw[e]at b c g i j m;unfold om at b c g i j m;exact q (by rw[b];simp) (fun x=>by rw[c];simp[j7]) (by rw[g];simp) (by rw[i,hg];rfl) j m
 ·have e:=n 3 rfl rfl rfl rfl;rw[e]at b c g i j m;unfold om at b c g i j m;exact q (by rw[b];simp) (fun x=>by rw[c];simp[j7]) (by rw[g];simp) (by rw[i];simp) j m
 ·have e:=n 4 rfl rfl rfl rfl;rw[e]at b c g i j m;unfold om at b c g i j m;exact q (by rw[b];simp) (fun x=>by rw[c];simp[j7]) (by rw[g];simp) (by rw[i];simp) j m
 ·have e:=n 5 rfl rfl rfl rfl;rw[e]at b c g i j m;unfold om at b c g i j m;exact q (by rw[b];simp) (fun x=>by rw[c];simp[j7]) (by rw[g];simp) (by rw[i];simp) j m
theorem Fg(n:jF T (aj T) (aj T).length)(z:oi T (aj T) (aj T).length)(I:vL T (aj T) d)(D:eQ T (fL T)=(l,w))(b:fL T<w)(m:w<=T.length)(k:fC l.toList d.Zby)(B:fM T w T.length=f)(E:d.Zbm=lq T (aj T)++(if(aG l||aK l)=true then [tS T (fL T)] else []))(A:(aG l||aK l)=true->((tS T (fL T)).toList == [])=false)(C:cD t.s=false)(o:v.Zbg=d.Zbg)(p:v.Zbh=d.Zbh)(q:v.Zbn=d.Zbn)(r:v.Zbq=d.Zbq)(u:v.ZbA=d.ZbA)(x:v.Zbm=d.Zbm)(y:v.Zby=d.Zby)(e:v.Zbi=aN (f++[t.s]) ⟨#[36,61]⟩)(i:v.Zbe=(f++[t.s]).takeWhile kL)(g:v.Zbi=true->v.Zby=5/\v.Zbe≠[]):vL (T++[t]) (aj (T++[t])) v/\xb (T++[t]) v:=by
 obtain⟨j,c⟩:=mY (T:=T) (t:=t) C;have a:tS (T++[t]) (fL (T++[t]))=tS T (fL T):=by rw[c,gI T [t] _ (by omega)]
 refine⟨by rw[j];exact I.same n z o p q r u,xb.body l w (f++[t.s]) (by rw[c];exact qF D b m k) (by rw[c];exact b) (by simp;omega) (by rw[y];exact k) (by rw[QU t w m,B]) e i g ?_ (fun h=>by rw[a];exact A h)⟩;rw[j,t7 n,a,x];exact E
theorem PG(E:jF T (aj T) (aj T).length)(u:oi T (aj T) (aj T).length)(I:vL T (aj T) d)(C:eQ T (fL T)=(l,w))(b:fL T<w)(B:w<=T.length)(j:fC l.toList d.Zby)(A:fM T w T.length=f)(a:d.Zbi=aN f ⟨#[36,61]⟩)(i:d.Zbe=f.takeWhile kL)(m:d.Zbi=true->d.Zby=5/\d.Zbe≠[])(r:d.Zbm=lq T (aj T)++(if(aG l||aK l)=true then [tS T (fL T)] else []))(x:(aG l||aK l)=true->((tS T (fL T)).toList == [])=false)(p:Pl) :
  nV T (aj T) l t.s (aj T).length f=(aY d t.s p).1/\((aY d t.s p).1=0->vL (T++[t]) (aj (T++[t])) (aY d t.s p).2/\xb (T++[t]) (aY d t.s p).2):=by
 have k:d.Zbi=false->d.Zbe=f:=fun h=>by rw[i];exact wo f (by rw[<-a];exact h)
 have o:(⟨#[36,61]⟩:Xr).toList=[36,61]:=by decide +kernel
 rw[qS j];unfold nV;cases P:(t.s.toList == [36,46])
 ·simp only[Bool.false_eq_true,if_false];rw[<-a,<-zaK j];cases y:((t.s.toList == [36,61])&&((d.Zby==5) && !d.Zbi))
  ·have G:¬((t.s.toList == [36,61])=true/\(d.Zby==5)=true/\d.Zbi=false):=fun h=>by
    rw[h.1,h.2.1,h.2.2]at y;cases y
   simp only[Bool.false_eq_true,if_false];rw[Xz G,jx];cases N:dO t.s
   ·have c:cD t.s=false:=by
     cases K:cD t.s
     ·rfl
     ·have:=(mx K).1;rw[jx,N]at this;cases this
    have L:(t.s.toList == [36,61])=false:=by
     cases K:(t.s.toList == [36,61])
     ·rfl
     ·have e:=Lp (dF K);rw[jx,N]at e;exact absurd e (by decide +kernel)
    simp only[Bool.false_eq_true,if_false];cases z:d.Zbi
    ·have D:=k z;simp only[Bool.false_eq_true,if_false];have Q:=Q4 I j D (fun h=>by rw[r,Xz (by rw[h];simp),Ya]) t.s;rw[Q];have g:aN (f++[t.s]) ⟨#[36,61]⟩=false:=by
      rw[As,vh,<-a,z,o,L];rfl
     cases H:(bh d t.s==0)
     ·simp only[Bool.false_eq_true,if_false];exact⟨trivial,fun h=>by rw[h]at H;cases H⟩
     ·rw[XA rfl];refine⟨by simpa using H,fun _=>Fg E u I C b B j A r x c rfl rfl rfl rfl rfl rfl rfl g.symm ?_ (fun h=>Bool.noConfusion h)⟩;rw[wo _ g];simp only;rw[D]
    ·have O:aN f ⟨#[36,61]⟩=true:=(by rw[<-a];exact z);rw[XA rfl,XA rfl];exact⟨rfl,fun _=>Fg E u I C b B j A r x c rfl rfl rfl rfl rfl rfl rfl (by rw[As,O,ZV]) (by rw[TV _ _ O];exact i) (fun _=>m z)⟩
   ·rw[XA rfl,XA rfl];exact⟨rfl,fun h=>by cases h⟩
  ·simp only[Bool.and_eq_true,Bool.not_eq_true']at y;obtain⟨v,M,F⟩:=y;have D:=k F;rw[XA rfl,XA (show(t.s.toList == [36,61])=true/\(d.Zby==5)=true/\d.Zbi=false from⟨v,M,F⟩)];unfold cr;rw[D];by_cases n:f.length=0
   ·rw[XA n,XA n];exact⟨rfl,fun h=>by cases h⟩
   ·rw[Xz n,Xz n];have c:cD t.s=false:=(by rw[(kQ (dF v)).2.2];decide);have J:aN f ⟨#[36,61]⟩=false:=(by rw[<-a];exact F);have g:aN (f++[t.s]) ⟨#[36,61]⟩=true:=(by rw[As,vh,o,v,Za2]);refine⟨rfl,fun _=>Fg E u I C b B j A r x c rfl rfl rfl rfl rfl rfl rfl g.symm ?_ (fun _=>⟨by simpa using M,?_⟩)⟩
    ·have q:=RH f J;rw[List.takeWhile_append_of_pos q,Zo (by unfold kL;rw[v];simp),Ya]
    ·simp only;intro e;rw[e]at n;exact n rfl
 ·rw[XA rfl,XA rfl];obtain⟨R,S⟩:=zaq j a i m p;refine⟨R,fun h=>?_⟩;obtain⟨U,V⟩:=S h;exact Ln E u I C b B j A i m r x P p V k U
theorem sO(a:(l.toList == [36,123])=false)(b:(l.toList == [36,125])=false)(o:Int):aV o l=o:=by
 unfold aV;rw[a,b];rfl
theorem Ei(h:dO l=false)(o:Int):aV o l=o:=by
 have a:cD l=false:=by
  cases b:cD l
  ·rfl
  ·have:=(mx b).1;rw[jx,h]at this;cases this
 unfold cD at a;simp only[Bool.or_eq_false_iff]at a;exact sO a.1.2 a.2 o
theorem zZ(d:Db)(p:Pl):(aW d p).ZbA=d.ZbA:=by
 unfold aW eK om jg;split
 ·rfl
 ·split
  ·rfl
  ·split <;> rfl
theorem IW(o:xb T d)(x:Xr)(p:Pl)(h:(aY d x p).1=0):((aY d x p).2.ZbA.length:Int)=aV (d.ZbA.length:Int) x:=by
 rcases o with ⟨v,i,g,f,n⟩ | ⟨v,i,g,f,n,z,y⟩ | ⟨D,m,B,i,w,a,u,F,f,g,A,n,E⟩
 ·have e:aY d x p=aC d x:=by unfold aY;rw[i];rfl
  rw[e]at h ⊢;cases b:(x.toList == [36,123])
  ·cases c:(x.toList == [36,125])
   ·rw[sO b c];unfold aC bS;rw[b,c,Xz (by simp),Xz (by simp)]
    repeat' split
    all_goals rfl
   ·have j:aC d x=(match d.ZbA.getLast? with | none=>(9,d) | some p=>(0,cZ d p)):=by
     unfold aC;rw[b,c,Xz (by simp),XA rfl];rfl
    rw[j]at h ⊢;cases k:d.ZbA.getLast? with
    | none=>rw[k]at h;cases h
    | some q =>
     have r:0<d.ZbA.length:=by
      rw[Zaf];intro e;rw[e]at k;cases k
     have t:(cZ d q).ZbA=d.ZbA.dropLast:=by
      unfold cZ dI;split <;> rfl
     simp only;rw[t,uZ (dF c),Zk]
     show((d.ZbA.length-1:Nat):Int)=(d.ZbA.length:Int)-1
     omega
  ·have j:aC d x=(0,{ d with ZbA:=d.ZbA++[(d.Zbn.length,d.Zbq.length)],rbl:=d.rbl++[d.Zbv.length] }):=by
    unfold aC;rw[b,XA rfl]
   rw[j,uZ (dF b)];simp only[List.length_append,List.length_cons,List.length_nil]
   show((d.ZbA.length+(0+1):Nat):Int)=(d.ZbA.length:Int)+1
   omega
 ·have e:aY d x p=aJ d x:=by unfold aY;rw[i];rfl
  rw[e]at h ⊢;have C:aV (d.ZbA.length:Int) x=(d.ZbA.length:Int):=by
   refine sO ?_ ?_ _
   ·cases a:(x.toList == [36,123])
    ·rfl
    ·exfalso
     unfold aJ at h;rw[dm a,dm a,dm a,dm a,Xz (by decide),Xz (by decide),Xz (by decide),Xz (by decide)]at h;cases h
   ·cases a:(x.toList == [36,125])
    ·rfl
    ·exfalso
     unfold aJ at h;rw[dm a,dm a,dm a,dm a,Xz (by decide),Xz (by decide),Xz (by decide),Xz (by decide)]at h;cases h
  rw[C];unfold aJ
  repeat' split
  all_goals rfl
 ·rw[qS u]at h ⊢;cases b:(x.toList == [36,46])
  ·rw[b,Xz (by simp)]at h;rw[Xz (by simp)];by_cases c:(x.toList == [36,61])=true/\(d.Zby==5)=true/\d.Zbi=false
   ·rw[XA c,sO (by rw[dm c.1];decide) (by rw[dm c.1];decide)];unfold cr;split <;> rfl
   ·rw[Xz c]at h ⊢;cases l:dO x
    ·rw[Ei l,Xz (by simp)]
     repeat' split
     all_goals rfl
    ·rw[l,XA rfl]at h;cases h
  ·rw[XA rfl,sO (by rw[dm b];decide) (by rw[dm b];decide)];unfold l9;split
   ·rfl
   ·split
    ·rfl
    ·simp only;rw[zZ]
end
def pa(S:List Sm)(j:Nat):Bool:=((ay S j).k.toList == [36,100])||((ay S j).k.toList == [36,102])||((ay S j).k.toList == [36,101])||((ay S j).k.toList == [36,97])||((ay S j).k.toList == [36,112])
def nU(S:List Sm):Xu:=(List.range S.length).filter (pa S)
def bF(S:List Sm)(n:Nat):Nat:=(nU S).getD n S.length
theorem RZ(j:Nat)(a:j<k.length):pa (k++[L]) j=pa k j:=by
 unfold pa;rw[kC k [L] j a]
theorem oP:nU (k++[L])=nU k++(if pa (k++[L]) k.length=true then [k.length] else []):=by
 unfold nU;rw[dg,YG,Yy,fy (fun j a=>RZ k L j a)];congr 1;cases h:pa (k++[L]) k.length <;> simp[h]
theorem We(h:(nU b)[w]?=some x):x<b.length:=by
 have:=YH h;exact XI.1 (Yt.1 this).1
theorem Wd(h:w<(nU b).length):bF b w<b.length:=by
 have e:(nU b)[w]?=some (bF b w):=by unfold bF;rw[Xw,Xv h];rfl
 exact We e
theorem SV:bF k (nU k).length=k.length:=by
 unfold bF;rw[Xw,Yb (Xy _)];rfl
theorem SU(h:w<(nU b).length):bF (b++[I]) w=bF b w:=by
 unfold bF;rw[oP,Xw,Xw,XP h,Xv h];rfl
theorem m9{S:List Sm}{n a:Nat}(h:n<a)(b:a<(nU S).length):bF S n<bF S a:=by
 have c:(nU S).Pairwise (· < ·):=List.Pairwise.filter _ Zau;have:=ZaN.1 c n a (by omega) b h;unfold bF;rw[Xw,Xw,Xv b,Xv (by omega)];exact this
theorem vP(a:w<=x)(c:x<=b.length):bn (b++[I]) w x=bn b w x:=by
 unfold bn;rw[YI (by omega),YY (by rw[Ym];omega)]
theorem tV(a:w<=b.length):bD (b++[I]) w=bD b w:=by
 unfold bD;rw[YY a]
theorem L9(a:w<=b.length):bn (b++[I]) w (b.length+1)=(bn b w b.length&&decide (bD b w<=aV (bD b b.length) I.k)):=by
 rw[vQ (b++[I]) w b.length a (by rw[dg];omega),vP a (Xy _),tV a,ju]
theorem DR(a:w<=b.length)(h:bn b w b.length=true):bD b w<=bD b b.length:=Jz b w b.length a (Xy _) h b.length a (Xy _)
theorem qy(a:w<=b.length)(c:∀o,o<=aV o I.k):bn (b++[I]) w (b.length+1)=bn b w b.length:=by
 rw[L9 a];cases h:bn b w b.length
 ·rfl
 ·have:=DR a h;have:=c (bD b b.length);simp;omega
structure pZ(S:List Sm)(l:List St)(rb:Xu):Prop where
 len:l.length=(nU S).length
 til:∀(n:Nat) (s:St),l[n]?=some s->sU s.Zby=false->∀a,n<a->a<=l.length->(s.til==0||decide (a<s.til))=bn S (bF S n) (bF S a)
 le:∀(n:Nat) (s:St),l[n]?=some s->s.til<=l.length
 dep:bD S S.length=(rb.length:Int)
 rbl:∀i,i<rb.length->rb.getD i 0<=l.length/\∀n,n<l.length->bn S (bF S n) S.length=true->(rb.getD i 0<=n ↔ (i:Int)<bD S (bF S n))
theorem pZ.nil:pZ [] [] []:=⟨rfl,(fun n s h=>by cases h),(fun n s h=>by cases h),rfl,fun i h=>by cases h⟩
theorem pZ.at_(h:pZ b H y)(a:w<H.length):bF b w<b.length:=Wd (by rw[<-h.len];exact a)
theorem pZ.ix(h:pZ b H y)(s:Sm)(a:w<H.length):bF (b++[s]) w=bF b w:=SU (by rw[<-h.len];exact a)
theorem pZ.ixEnd(h:pZ b H y):bF b H.length=b.length:=by rw[h.len];exact SV b
theorem pZ.now(h:pZ b H y)(a:H[w]?=some i)(c:sU i.Zby=false):(i.til==0)=bn b (bF b w) b.length:=by
 have d:=(XL.1 a).1;have:=h.til w i a c H.length d (Xy _);rw[h.ixEnd]at this;rw[<-this];have:=h.le w i a;rw[YB (by omega),Y8]
theorem pZ.other(h:pZ b H y)(s:Sm)(G:pa (b++[s]) b.length=false)(u:∀o,o<=aV o s.k)(f:Xu)(F:aV (bD b b.length) s.k=f.length)(E:f=y∨f=y++[H.length]):pZ (b++[s]) H f:=by
 have e:nU (b++[s])=nU b:=by rw[oP,Xz (by rw[G];simp),Ya]
 have A:bF (b++[s]) H.length=b.length+1:=by
  unfold bF;rw[e,Xw,Yb (by rw[h.len];exact Xy _)];exact dg b s
 refine⟨by rw[e];exact h.len,fun n t v x a g l=>?_,h.le,by rw[dg,ju];exact F,fun i j=>?_⟩
 ·have d:=(XL.1 v).1;have m:=h.at_ d;rw[h.ix s d];by_cases B:a=H.length
  ·subst B;rw[A,qy (by omega) u,h.til n t v x _ g l,h.ixEnd]
  ·have c:a<H.length:=(by omega);have:=h.at_ c;have r:bF b n<=bF b a:=Ys (m9 g (by rw[<-h.len];exact c));rw[h.ix s c,vP r (by omega)];exact h.til n t v x a g l
 ·rw[dg];have p:∀i,i<y.length->y.getD i 0<=H.length/\∀n,n<H.length->bn (b++[s]) (bF (b++[s]) n) (b.length+1)=true->(y.getD i 0<=n ↔ (i:Int)<bD (b++[s]) (bF (b++[s]) n)):=fun i j=>by
   obtain⟨C,D⟩:=h.rbl i j;refine⟨C,fun n d c=>?_⟩;have m:=h.at_ d;rw[h.ix s d]at c ⊢;rw[qy (by omega) u]at c;rw[tV (by omega)];exact D n d c
  rcases E with rfl | rfl
  ·exact p i j
  ·rw[XC]at j;replace j:i<y.length+1:=j;by_cases w:i<y.length
   ·have q:(y++[H.length]).getD i 0=y.getD i 0:=(by rw[Xw,Xw,XP w]);rw[q];exact p i w
   ·have q:i=y.length:=(by omega);subst q;have z:(y++[H.length]).getD y.length 0=H.length:=by rw[Xw,XO (Xy _),YA];rfl
    rw[z];refine⟨Xy _,fun n d c=>?_⟩;have m:=h.at_ d;rw[h.ix s d]at c ⊢;rw[qy (by omega) u]at c;rw[tV (by omega)];have:=DR (by omega) c;have:=h.dep;omega
theorem pZ.Zbw(h:pZ b H y)(s:Sm)(K:pa (b++[s]) b.length=true)(B:∀o,aV o s.k=o)(t:St)(L:t.til=0):pZ (b++[s]) (H++[t]) y:=by
 have d:∀o,o<=aV o s.k:=fun o=>by rw[B o];exact Zaa _
 have e:nU (b++[s])=nU b++[b.length]:=by rw[oP,XA K]
 have m:(H++[t]).length=H.length+1:=by rw[XC];rfl
 have q:bF (b++[s]) H.length=b.length:=by
  unfold bF;rw[e,h.len,Xw,XO (Xy _),YA];rfl
 have A:bF (b++[s]) (H.length+1)=b.length+1:=by
  unfold bF;rw[e,Xw,Yb (by rw[XC,h.len];exact Xy _)];exact dg b s
 have f:bn (b++[s]) b.length (b.length+1)=true:=by
  rw[qy (Xy _) d];exact FK b b.length
 refine⟨by rw[m,e,XC,h.len];rfl,fun n u c w a l v=>?_,fun n u c=>?_,by rw[dg,ju,B];exact h.dep,fun i J=>?_⟩
 ·rw[m]at v;by_cases g:n<H.length
  ·rw[XP g]at c;have z:=h.at_ g;have M:=h.le n u c;rw[h.ix s g];by_cases j:a<H.length
   ·have:=h.at_ j;have x:bF b n<=bF b a:=Ys (m9 l (by rw[<-h.len];exact j));rw[h.ix s j,vP x (by omega)];exact h.til n u c w a l (by omega)
   ·by_cases D:a=H.length
    ·subst D;rw[q,vP (by omega) (Xy _),<-h.now c w,YB (by omega),Y8]
    ·have E:a=H.length+1:=(by omega);subst E;rw[A,qy (by omega) d,<-h.now c w,YB (by omega),Y8]
  ·have F:n=H.length:=(by omega);have j:a=H.length+1:=(by omega);subst F j;rw[XO (Xy _),YA]at c;cases c
   rw[q,A,f,L];rfl
 ·rw[m];by_cases g:n<H.length
  ·rw[XP g]at c;have:=h.le n u c;omega
  ·have:=(XL.1 c).1;rw[m]at this;rw[XO (by omega),show n-H.length=0 by omega]at c;cases c
   omega
 ·obtain⟨G,I⟩:=h.rbl i J;rw[m,dg];refine⟨by omega,fun n g r=>?_⟩;by_cases p:n<H.length
  ·have z:=h.at_ p;rw[h.ix s p]at r ⊢;rw[qy (by omega) d]at r;rw[tV (by omega)];exact I n p r
  ·have C:n=H.length:=(by omega);subst C;rw[q,tV (Xy _),h.dep];constructor
   ·intro _;omega
   ·intro _;exact G
theorem qA(h:(ig H w)[x]?=some i):∃v,H[x]?=some v/\i=(if w<=x/\x<H.length then ma H.length v else v):=by
 unfold ig at h;rw[mU]at h;cases e:H[x]? with
 | none=>rw[e]at h;cases h
 | some v=>rw[e]at h;simp only[Option.map_some,Option.some.injEq]at h;exact⟨v,rfl,h.symm⟩
theorem pZ.pop(h:pZ b H (y++[w]))(s:Sm)(R:pa (b++[s]) b.length=false)(J:∀o,aV o s.k=o-1):pZ (b++[s]) (ig H w) y:=by
 have e:nU (b++[s])=nU b:=by rw[oP,Xz (by rw[R];simp),Ya]
 have t:(ig H w).length=H.length:=lP H w H.length;have N:bF (b++[s]) H.length=b.length+1:=by
  unfold bF;rw[e,Xw,Yb (by rw[h.len];exact Xy _)];exact dg b s
 have P:bD b b.length=(y.length:Int)+1:=by rw[h.dep,XC];rfl
 obtain⟨B,l⟩:=h.rbl y.length (by rw[XC];exact Nat.lt_succ_self _);have M:(y++[w]).getD y.length 0=w:=by rw[Xw,XO (Xy _),YA];rfl
 rw[M]at B l;have K:∀n,n<H.length->bn (b++[s]) (bF b n) (b.length+1)=(bn b (bF b n) b.length&&decide (n<w)):=fun n d=>by
  have p:=h.at_ d;rw[L9 (by omega)];cases g:bn b (bF b n) b.length
  ·rfl
  ·have q:=l n d g;have:=DR (by omega) g;rw[J,Y0,Y0];by_cases c:n<w
   ·rw[YX c];exact YX (by omega)
   ·rw[YB c];exact YB (by omega)
 refine⟨by rw[t,e];exact h.len,fun n u D m a r A=>?_,fun n u D=>?_,by rw[dg,ju,J,P];omega,fun i I=>?_⟩
 ·obtain⟨v,j,rfl⟩:=qA D;have d:=(XL.1 j).1;have p:=h.at_ d;rw[t]at A;have f:sU v.Zby=false:=by
   split at m
   ·unfold ma at m;split at m <;> exact m
   ·exact m
  have E:=h.now j f;rw[h.ix s d];have Q:=h.le n v j;by_cases x:a<H.length
  ·have:=h.at_ x;have C:bF b n<=bF b a:=Ys (m9 r (by rw[<-h.len];exact x));rw[h.ix s x,vP C (by omega),<-h.til n v j f a r (by omega)];split
   ·unfold ma;split
    ·next c=>rw[c.1];simp;omega
    ·rfl
   ·rfl
  ·have O:a=H.length:=(by omega);subst O;rw[N,K n d,<-E];by_cases c:w<=n
   ·rw[XA ⟨c,d⟩,YB (show ¬n<w by omega),Bool.and_false];unfold ma;by_cases z:v.til=0
    ·rw[XA ⟨z,f⟩]
     show(H.length==0||decide (H.length<H.length))=false
     rw[X6.2 (show H.length≠0 by omega),YB (Z1 _)];rfl
    ·rw[Xz (fun q=>z q.1)];have:(v.til==0)=false:=X6.2 z;rw[this,YB (show ¬H.length<v.til by omega)];rfl
   ·rw[Xz (fun q=>c q.1),YX (show n<w by omega),Bool.and_true,YB (show ¬H.length<v.til by omega),Y8]
 ·obtain⟨v,j,rfl⟩:=qA D;have:=h.le n v j;rw[t];split
  ·unfold ma;split
   ·exact Xy _
   ·exact this
  ·exact this
 ·obtain⟨F,G⟩:=h.rbl i (by rw[XC];exact Nat.lt_succ_of_lt I);have L:(y++[w]).getD i 0=y.getD i 0:=by rw[Xw,Xw,XP I]
  rw[L]at F G;rw[t,dg];refine⟨F,fun n d g=>?_⟩;have p:=h.at_ d;rw[h.ix s d]at g ⊢;rw[K n d,XU]at g;rw[tV (by omega)];exact G n d g.1
def VB(k:Int):Bool:=decide (2<=k/\k<=6)
structure jT(T:List Tk)(d:Db):Prop where
 hel:pZ (aj T) d.Zbv d.rbl
 ct:∀(n:Nat) (s:St),d.Zbv[n]?=some s->fC (ay (aj T) (bF (aj T) n)).k.toList s.Zby/\s.Zbz=bP T (ay (aj T) (bF (aj T) n))/\s.Zbe=bC T (ay (aj T) (bF (aj T) n)).h/\dA T (ay (aj T) (bF (aj T) n)).h
 lab:d.Zbz=if VB d.Zby=true then tS T (fL T) else⟨#[]⟩
section
variable {T:List Tk} {t:Tk} {d d':Db}
theorem wA:pa (k++[L]) k.length=(((L.k.toList == [36,100])||(L.k.toList == [36,102])||(L.k.toList == [36,101])||(L.k.toList == [36,97])||(L.k.toList == [36,112]))):=by
 unfold pa;rw[mu]
theorem jT.old(R:jT T d)(r:jF T (aj T) (aj T).length){M:List Sm}{b:St}(p:w<d.Zbv.length)(q:d.Zbv[w]?=some i)(e:bF (aj T++M) w=bF (aj T) w)(g:b.Zby=i.Zby)(j:b.Zbz=i.Zbz)(l:b.Zbe=i.Zbe) :
  fC (ay (aj T++M) (bF (aj T++M) w)).k.toList b.Zby/\b.Zbz=bP (T++[t]) (ay (aj T++M) (bF (aj T++M) w))/\b.Zbe=bC (T++[t]) (ay (aj T++M) (bF (aj T++M) w)).h/\dA (T++[t]) (ay (aj T++M) (bF (aj T++M) w)).h:=by
 obtain⟨m,n,o,f⟩:=R.ct w i q;have c:=R.hel.at_ p;rw[e,kC _ _ _ c,g,j,l];refine⟨m,?_,?_,PM T [t] _ f⟩
 ·rw[n];unfold bP;rw[gI T [t] _ (r.a _ c)]
 ·rw[o,sK T [t] _ f]
theorem jT.Zbj(R:jT T d)(k:jF T (aj T) (aj T).length)(i:cD t.s=false)(c:d'.Zbv=d.Zbv)(f:d'.rbl=d.rbl)(g:d'.Zbz=if VB d'.Zby=true then tS (T++[t]) (fL T) else⟨#[]⟩):jT (T++[t]) d':=by
 obtain⟨b,e⟩:=mY (T:=T) (t:=t) i;refine⟨by rw[b,c,f];exact R.hel,fun n s a=>?_,by rw[e];exact g⟩;rw[c]at a;have j:=(XL.1 a).1;rw[b];have:=R.old (t:=t) k (M:=[]) j a (by rw[Ya]) rfl rfl rfl;rw[Ya]at this;exact this
theorem jT.other(R:jT T d)(p:jF T (aj T) (aj T).length)(s:Sm)(c:aj (T++[t])=aj T++[s])(l:pa (aj T++[s]) (aj T).length=false)(m:∀o,o<=aV o s.k)(j:aV (bD (aj T) (aj T).length) s.k=(d'.rbl.length:Int))(i:d'.rbl=d.rbl∨d'.rbl=d.rbl++[d.Zbv.length])(b:d'.Zbv=d.Zbv)(f:d'.Zbz=⟨#[]⟩)(g:d'.Zby=0):jT (T++[t]) d':=by
 refine⟨by rw[c,b];exact R.hel.other s l m d'.rbl j i,fun n u a=>?_,by rw[f,g];rfl⟩;rw[b]at a;have e:=(XL.1 a).1;rw[c];exact R.old p e a (R.hel.ix s e) rfl rfl rfl
theorem jT.Zbw(R:jT T d)(z:jF T (aj T) (aj T).length)(s:Sm)(f:aj (T++[t])=aj T++[s])(g:pa (aj T++[s]) (aj T).length=true)(x:∀o,aV o s.k=o)(u:St)(y:u.til=0)(p:fC s.k.toList u.Zby)(w:u.Zbz=bP (T++[t]) s)(q:u.Zbe=bC (T++[t]) s.h)(r:dA (T++[t]) s.h)(c:d'.Zbv=d.Zbv++[u])(i:d'.rbl=d.rbl)(j:d'.Zbz=⟨#[]⟩)(l:d'.Zby=0):jT (T++[t]) d':=by
 refine⟨by rw[f,c,i];exact R.hel.Zbw s g x u y,fun n v a=>?_,by rw[j,l];rfl⟩;rw[c]at a;rw[f];by_cases b:n<d.Zbv.length
 ·rw[XP b]at a;exact R.old z b a (R.hel.ix s b) rfl rfl rfl
 ·have e:n=d.Zbv.length:=by
   have:=(XL.1 a).1;rw[XC]at this;have:n<d.Zbv.length+1:=this;omega
  subst e;rw[XO (Xy _),YA]at a;cases a
  have m:bF (aj T++[s]) d.Zbv.length=(aj T).length:=by
   unfold bF;rw[oP,XA g,R.hel.len,Xw,XO (Xy _),YA];rfl
  rw[m,mu];exact⟨p,w,q,r⟩
theorem jT.pop(R:jT T d)(x:jF T (aj T) (aj T).length)(s:Sm)(b:aj (T++[t])=aj T++[s])(m:pa (aj T++[s]) (aj T).length=false)(p:∀o,aV o s.k=o-1)(g:d.rbl=y++[w])(a:d'.Zbv=ig d.Zbv w)(i:d'.rbl=y)(j:d'.Zbz=⟨#[]⟩)(l:d'.Zby=0):jT (T++[t]) d':=by
 have h:=R.hel;rw[g]at h;refine⟨by rw[b,a,i];exact h.pop s m p,fun n u e=>?_,by rw[j,l];rfl⟩;rw[a]at e;obtain⟨v,f,r⟩:=qA e;have c:=(XL.1 f).1;have q:u.Zby=v.Zby/\u.Zbz=v.Zbz/\u.Zbe=v.Zbe:=by
  rw[r];split
  ·unfold ma;split <;> exact⟨rfl,rfl,rfl⟩
  ·exact⟨rfl,rfl,rfl⟩
 rw[b];exact R.old x c f (R.hel.ix s c) q.1 q.2.1 q.2.2
end
section
variable {T:List Tk} {t:Tk} {d:Db}
theorem tX(h:dO l=false):cD l=false:=by
 cases a:cD l
 ·rfl
 ·have:=(mx a).1;rw[jx,h]at this;cases this
theorem gu(h:(l.toList==o)=true)(a:((o == [36,46])||(o == [36,123])||(o == [36,125]))=false):cD l=false:=by
 rw[(kQ (dF h)).2.2];exact a
theorem jT.first(R:jT T d)(b:jF T (aj T) (aj T).length)(A:bD (aj T) (aj T).length=(d.ZbA.length:Int))(p:fL T=T.length)(u:d.Zby=0)(a:(aC d t.s).1=0):jT (T++[t]) (aC d t.s).2:=by
 have g:d.Zbz=⟨#[]⟩:=by rw[R.lab,u];rfl
 unfold aC at *;by_cases c:(t.s.toList == [36,123])=true
 ·rw[XA c];obtain⟨k,-⟩:=oO (T:=T) (t:=t) p (by rw[(kQ (dF c)).2.2];decide);have i:∀o,aV o t.s=o+1:=fun o=>by rw[uZ (dF c)];rfl
  refine R.other b _ k (by rw[wA];simp only;rw[dF c];decide) (fun o=>by show o<=aV o t.s;rw[i];omega) ?_ (XK rfl) rfl g u;show aV _ t.s=_;rw[i,R.hel.dep];simp only[List.length_append,List.length_cons,List.length_nil];omega
 rw[Xz c]at a ⊢;by_cases f:(t.s.toList == [36,125])=true
 ·rw[XA f]at a ⊢;cases r:d.ZbA.getLast? with
  | none=>rw[r]at a;cases a
  | some q =>
   simp only;obtain⟨k,-⟩:=oO (T:=T) (t:=t) p (by rw[(kQ (dF f)).2.2];decide);have i:∀o,aV o t.s=o-1:=fun o=>by rw[uZ (dF f)];rfl
   have j:d.rbl≠[]:=by
    intro e;have:=R.hel.dep;rw[A,e]at this;have:d.ZbA=[]:=XY (by simpa using this);rw[this]at r;cases r
   have x:d.rbl=d.rbl.dropLast++[d.rbl.getLast j]:=(ZaB j).symm;have y:d.rbl.getLast?=some (d.rbl.getLast j):=Zw j;unfold cZ;rw[y];exact R.pop b _ k (by rw[wA];simp only;rw[dF f];decide) (fun o=>i o) x rfl rfl g u
 rw[Xz f]at a ⊢;by_cases l:(t.s.toList == [36,99])=true
 ·rw[XA l]at a ⊢;by_cases w:0<d.ZbA.length
  ·rw[XA w]at a;cases a
  ·rw[Xz w];exact R.Zbj b (gu l (by decide)) rfl rfl g
 rw[Xz l]at a ⊢;by_cases m:(t.s.toList == [36,118])=true
 ·rw[XA m];exact R.Zbj b (gu m (by decide)) rfl rfl g
 rw[Xz m]at a ⊢;by_cases n:(t.s.toList == [36,100])=true
 ·rw[XA n];exact R.Zbj b (gu n (by decide)) rfl rfl g
 rw[Xz n]at a ⊢;split at a
 ·cases a
 ·next z =>
  rw[Xz z];unfold bS at *;cases v:dO t.s
  ·rw[v,Xz (by simp)]at a;split at a
   ·cases a
   ·next B =>
    split at a
    ·cases a
    ·next C =>
     rw[Xz (by simp),Xz B,Xz C];exact R.Zbj b (tX v) rfl rfl (by show t.s=tS (T++[t]) (fL T);rw[p,pW])
  ·rw[v,XA rfl]at a;cases a
theorem jT.key(R:jT T d)(c:jF T (aj T) (aj T).length)(k:fL T+1=T.length)(j:d.Zby=6)(a:(aJ d t.s).1=0):jT (T++[t]) (aJ d t.s).2:=by
 have b:d.Zbz=tS (T++[t]) (fL T):=by rw[R.lab,j,gI T [t] _ (by omega)];rfl
 unfold aJ at *;split
 ·next h=>exact R.Zbj c (gu h (by decide)) rfl rfl b
 ·next e =>
  rw[Xz e]at a;split
  ·next h=>exact R.Zbj c (gu h (by decide)) rfl rfl b
  ·next f =>
   rw[Xz f]at a;split
   ·next h=>exact R.Zbj c (gu h (by decide)) rfl rfl b
   ·next g =>
    rw[Xz g]at a;split
    ·next h=>exact R.Zbj c (gu h (by decide)) rfl rfl b
    ·next i=>rw[Xz i]at a;cases a
theorem GS(h:fC o D):((o == [36,100])||(o == [36,102])||(o == [36,101])||(o == [36,97])||(o == [36,112]))=!((D==7)||(D==8)):=by
 (rcases h with ⟨rfl,rfl⟩ | ⟨rfl,rfl⟩ | ⟨rfl,rfl⟩ | ⟨rfl,rfl⟩ | ⟨rfl,rfl⟩ | ⟨rfl,rfl⟩ | ⟨rfl,rfl⟩) <;> decide
theorem R8(h:fC l.toList D):(aG l||aK l)=VB D:=by
 have e:=kQ (k:=l) rfl;rw[e.1,e.2.1];generalize l.toList=a at h
 (rcases h with ⟨rfl,rfl⟩ | ⟨rfl,rfl⟩ | ⟨rfl,rfl⟩ | ⟨rfl,rfl⟩ | ⟨rfl,rfl⟩ | ⟨rfl,rfl⟩ | ⟨rfl,rfl⟩) <;> decide
theorem jT.body(R:jT T d)(r:jF T (aj T) (aj T).length)(H:eQ T (fL T)=(l,w))(B:fL T<w)(A:w<=T.length)(m:fC l.toList d.Zby)(F:fM T w T.length=f)(D:d.Zbe=f.takeWhile kL)(p:Pl)(b:(aY d t.s p).1=0):jT (T++[t]) (aY d t.s p).2:=by
 have y:d.Zbz=if VB d.Zby=true then tS (T++[t]) (fL T) else⟨#[]⟩:=by rw[R.lab,gI T [t] _ (by omega)]
 rw[qS m]at *;by_cases n:(t.s.toList == [36,46])=true
 ·rw[XA n]at *;obtain⟨G,-⟩:=EI n;obtain⟨v,-⟩:=po T t;rw[XA G,qF H B A m]at v;simp only at v;have i:bC (T++[t]) w=d.Zbe:=by
   unfold bC;rw[YI A,vU _ t (fun u I=>?_) n,D,<-F,nD];have:=xL T w (by omega) u I;unfold cD at this;simp only[Bool.or_eq_false_iff]at this;exact this.1.1
  have C:dA (T++[t]) w:=⟨T.length,A,by simp,by rw[pW];unfold pq;rw[n];simp⟩;have c:=m.dep.1;have e:pa (aj T++[(⟨fL T,T.length+1,w,l⟩:Sm)]) (aj T).length=!((d.Zby==7)||(d.Zby==8)):=by rw[wA];exact GS m
  unfold l9 at *;split at b
  ·cases b
  ·next E =>
   rw[Xz E];split at b
   ·cases b
   ·next k =>
    rw[Xz k];simp only;cases a:((d.Zby==7)||(d.Zby==8))
    ·rw[a]at e;simp only[Bool.or_eq_false_iff]at a;have j:(aW d p).Zbv=d.Zbv++[⟨d.Zby,d.Zbz,d.Zbe,d.Zbp,p,0⟩]/\(aW d p).rbl=d.rbl:=by
      unfold aW om jg;rw[a.1,a.2];simp only[Bool.false_eq_true,if_false];split <;> exact⟨rfl,rfl⟩
     refine R.Zbw r _ v e (fun o=>c o) ⟨d.Zby,d.Zbz,d.Zbe,d.Zbp,p,0⟩ rfl m ?_ i.symm C j.1 j.2 rfl rfl;show d.Zbz=bP (T++[t]) ⟨fL T,T.length+1,w,l⟩;unfold bP;simp only;rw[R8 m];exact y
    ·rw[a]at e;have j:(aW d p).Zbv=d.Zbv/\(aW d p).rbl=d.rbl:=by
      unfold aW eK;rw[Yo]at a;split
      ·exact⟨rfl,rfl⟩
      ·next q =>
       rw[XA (a.resolve_left q)];exact⟨rfl,rfl⟩
     refine R.other r _ v e (fun o=>by show o<=aV o l;rw[c];exact Zaa _) ?_ (XQ j.2) j.1 rfl rfl;show aV _ l=_;rw[c,R.hel.dep];show _=((aW d p).rbl.length:Int)
     rw[j.2]
 ·rw[Xz n]at *;by_cases z:(t.s.toList == [36,61])=true/\(d.Zby==5)=true/\d.Zbi=false
  ·rw[XA z]at *;unfold cr at *;split at b
   ·cases b
   ·next g=>rw[Xz g];exact R.Zbj r (gu z.1 (by decide)) rfl rfl y
  ·rw[Xz z]at *;cases x:dO t.s
   ·rw[x,Xz (by simp)]at b;rw[Xz (by simp)];split at b
    ·next g=>rw[XA g];exact R.Zbj r (tX x) rfl rfl y
    ·next g =>
     rw[Xz g];split at b
     ·next k=>rw[XA k];exact R.Zbj r (tX x) rfl rfl y
     ·next k=>simp only at b;rw[b]at k;exact absurd rfl k
   ·rw[x,XA rfl]at b;cases b
theorem jT.step(o:xb T d)(n:vL T (aj T) d)(q:∀j,j<T.length->bG T (aj T) j=0)(R:jT T d)(v:T.length<=100000)(p:Pl)(c:(aY d t.s p).1=0):jT (T++[t]) (aY d t.s p).2:=by
 obtain⟨k,-⟩:=ET T v q;rcases o with ⟨g,a,b,f,m⟩ | ⟨g,a,b,f,m,y,x⟩ | ⟨A,l,B,a,i,w,u,r,f,b,z,m,C⟩
 ·have e:aY d t.s p=aC d t.s:=by unfold aY;rw[a];rfl
  rw[e]at c ⊢;exact R.first k (Gj n) g a c
 ·have e:aY d t.s p=aJ d t.s:=by unfold aY;rw[a];rfl
  rw[e]at c ⊢;exact R.key k g a c
 ·exact R.body k a i w u r b p c
end
theorem fQ(h:fC o D):(D==3)=(o == [36,101])/\(D==2)=(o == [36,102])/\(D==1)=(o == [36,100])/\sU D=((o == [36,97])||(o == [36,112])):=by
 (rcases h with ⟨rfl,rfl⟩ | ⟨rfl,rfl⟩ | ⟨rfl,rfl⟩ | ⟨rfl,rfl⟩ | ⟨rfl,rfl⟩ | ⟨rfl,rfl⟩ | ⟨rfl,rfl⟩) <;> decide
theorem AW:nU k=(List.range (nU k).length).map (bF k):=by
 apply YR;intro n;rw[Yi];by_cases h:n<(nU k).length
 ·rw[Zp h,Xv h];show _=some (bF k n);unfold bF;rw[Xw,Xv h];rfl
 ·rw[Yb (by omega),Yb (by rw[YW];omega)];rfl
theorem ud(d:w=(nU b).length){p q:Nat->Bool}(f:∀j,j<b.length->p j=true->pa b j=true)(g:∀n,n<w->q n=p (bF b n)):((List.range w).filter q).map (bF b)=(List.range b.length).filter p:=by
 have a:(List.range b.length).filter p=(nU b).filter p:=by
  unfold nU;rw[ZaK];apply fy;intro j c;cases h:p j
  ·rfl
  ·rw[f j c h];rfl
 rw[a,AW b,<-d,List.filter_map];congr 1;apply fy;intro n e;exact g n e
theorem oB(h:x<=w)(p:Nat->Bool):(List.range w).filter (fun j=>decide (j<x)&&p j)=(List.range x).filter p:=by
 have e:List.range w=List.range x++(List.range (w-x)).map (x + ·):=by
  have:=@List.range_add x (w-x);rwa [show x+(w-x)=w by omega]at this
 have b:(List.range x).filter (fun j=>decide (j<x)&&p j)=(List.range x).filter p:=fy (fun j a=>by rw[YX a,Y0]);have c:((List.range (w-x)).map (x + ·)).filter (fun j=>decide (j<x)&&p j)=[]:=by
  rw[ZE];intro j a;obtain⟨i,-,rfl⟩:=YN.1 a;rw[YB (by omega)];simp
 rw[e,Yy,b,c,Ya]
section
variable {T:List Tk} {d:Db}
theorem jT.held(R:jT T d)(a:d.Zbv[w]?=some i)(b:sU i.Zby=false)(c:x<d.Zbv.length):iI d.Zbv w x=(decide (bF (aj T) w<bF (aj T) x)&&bn (aj T) (bF (aj T) w) (bF (aj T) x)):=by
 have g:=(XL.1 a).1;have f:=R.hel.len;unfold iI;rw[a];simp only;by_cases h:w<x
 ·rw[YX h,YX (m9 h (by omega)),R.hel.til w i a b x h (by omega)]
 ·have:¬bF (aj T) w<bF (aj T) x:=by
   by_cases e:w=x
   ·rw[e];omega
   ·have:=m9 (S:=aj T) (n:=x) (a:=w) (by omega) (by omega);omega
  rw[YB h,YB this];rfl
theorem jT.get(R:jT T d)(a:w<d.Zbv.length):∃s,d.Zbv[w]?=some s/\fC (ay (aj T) (bF (aj T) w)).k.toList s.Zby/\s.Zbz=bP T (ay (aj T) (bF (aj T) w))/\s.Zbe=bC T (ay (aj T) (bF (aj T) w)).h:=by
 refine⟨d.Zbv[w],Xv a,?_⟩;obtain⟨b,c,e,-⟩:=R.ct w _ (Xv a);exact⟨b,c,e⟩
theorem jT.symsAt(R:jT T d)(a:w<d.Zbv.length):symsAt d.Zbv w=bC T (ay (aj T) (bF (aj T) w)).h:=by
 obtain⟨s,b,-,-,h⟩:=R.get a;unfold Go.Proofs.YtpdholcaobgofaaGreat.symsAt;rw[b];exact h
theorem jT.syms(R:jT T d)(b:w<d.Zbv.length):iz d.Zbv w=Bz T (aj T) (bF (aj T) w):=by
 have l:=R.hel.len;have a:=R.hel.at_ b;have f:((List.range d.Zbv.length).filter (Em d.Zbv w)).map (bF (aj T))=(List.range (bF (aj T) w)).filter (Cz (aj T) (bF (aj T) w)):=by
  rw[<-oB (Ys a)];refine ud l (fun j m h=>?_) (fun n c=>?_)
  ·unfold Cz at h;simp only[Bool.and_eq_true]at h;unfold pa;rw[h.2.1];simp
  ·obtain⟨s,i,g,-,-⟩:=R.get c;unfold Em Cz;rw[i];simp only;rw[(fQ g).1];cases e:((ay (aj T) (bF (aj T) n)).k.toList == [36,101])
   ·simp
   ·have a:sU s.Zby=false:=by
     rw[(fQ g).2.2.2,dm e,dm e];decide
    rw[R.held i a b,Y0,Y0]
 unfold iz fK Bz ny;rw[R.symsAt b,<-f,List.flatMap_map];congr 1;apply ew;intro n c;exact R.symsAt (XI.1 (Yt.1 c).1)
def FlE(T:List Tk)(S:List Sm):Prop:=∀j,j<S.length->((ay S j).k.toList == [36,102])=true->2<=(bC T (ay S j).h).length/\(bC T (ay S j).h).getD 1 ⟨#[]⟩=tS T ((ay S j).h+1)
theorem jT.hyps(R:jT T d)(F:FlE T (aj T))(e:w<d.Zbv.length):(aM d.Zbv w).map (bF (aj T))=bW T (aj T) (bF (aj T) w):=by
 have t:=R.hel.len;have b:=R.hel.at_ e;unfold aM eF bW;rw[R.syms e,<-oB (Ys b)];refine ud t (fun j x h=>?_) (fun n i=>?_)
 ·unfold vi at h;simp only[Bool.and_eq_true,Bool.or_eq_true]at h;unfold pa;rcases h.2.2 with h | h
  ·rw[h];simp
  ·rw[h.1];simp
 ·obtain⟨s,f,r,-,g⟩:=R.get i;have q:=R.hel.at_ i;obtain⟨v,l,y,m⟩:=fQ r;unfold og vi rZ;rw[f];simp only;rw[l];cases a:((ay (aj T) (bF (aj T) n)).k.toList == [36,102])
  ·rw[Xz (by simp),v];cases c:((ay (aj T) (bF (aj T) n)).k.toList == [36,101])
   ·simp
   ·have b:sU s.Zby=false:=(by rw[m,dm c,dm c];decide);rw[R.held f b e];simp
  ·have b:sU s.Zby=false:=(by rw[m,dm a,dm a];decide);have c:((ay (aj T) (bF (aj T) n)).k.toList == [36,101])=false:=(by rw[dm a];decide);obtain⟨o,p⟩:=F _ q a;have u:aB s=tS T ((ay (aj T) (bF (aj T) n)).h+1):=by
    unfold aB;rw[XA ⟨by rw[l];exact a,by rw[g];exact o⟩,g,p]
   rw[XA rfl,R.held f b e,u,c,Y7,Y0,Za8]
end
theorem NJ(L:List Tk):∀i,i<(mL L).length->(mL L)[i]?=L[i]?.map (·.s):=by
 induction L with
 | nil=>intro i a;cases a
 | cons t L b =>
  intro i a;unfold mL at a ⊢;split
  ·next h=>rw[XA h]at a;cases a
  ·next h =>
   rw[Xz h]at a;cases i with
   | zero=>rfl
   | succ i=>exact b i (by simpa using a)
theorem FS(T:List Tk)(h i:Nat)(a:i<(bC T h).length):(bC T h).getD i ⟨#[]⟩=tS T (h+i):=by
 unfold bC at *;have:=NJ (T.drop h) i a;unfold tS;rw[Xw,this,Zb,Xw];cases T[h+i]? <;> rfl
section
variable {T:List Tk} {t:Tk} {d d':Db}
def vr(s:St):Xr:=s.Zbe.getD 1 ⟨#[]⟩
structure uD(d:Db):Prop where
 fl:∀(n:Nat) (s:St),d.Zbv[n]?=some s->s.Zby=2->s.Zbe.length=2
 ds:∀(n m:Nat) (s u:St),d.Zbv[n]?=some s->d.Zbv[m]?=some u->s.Zby=2->u.Zby=2->n<m->(s.til=0∨m<s.til)->((vr s).toList==(vr u).toList)=false
 op:d.Zby=2->2<=d.Zbe.length->aN d.Zbq (d.Zbe.getD 1 ⟨#[]⟩)=false/\d.Zbe.length=2
theorem jT.Zbq(R:jT T d)(E:vL T (aj T) d)(F:uD d)(b:d.Zbv[w]?=some i)(c:i.Zby=2)(f:i.til=0):aN d.Zbq (vr i)=true:=by
 have n:=(XL.1 b).1;obtain⟨m,-,e,-⟩:=R.ct w i b;have g:sU i.Zby=false:=by rw[c];rfl
 have a:=R.hel.now b g;rw[f]at a;have j:=R.hel.at_ n;have o:((ay (aj T) (bF (aj T) w)).k.toList == [36,102])=true:=by rw[<-(fQ m).2.1,c];rfl
 rw[E.typ.l,qD,Yu];refine⟨bF (aj T) w,Yt.2 ⟨XI.2 j,a.symm⟩,?_⟩;unfold Mm;rw[XA o,vh];have p:=F.fl w i b c;unfold vr;rw[e,FS T _ 1 (by rw[<-e];omega)];simp
theorem uD.same(F:uD d)(b:d'.Zbv=d.Zbv)(e:d'.Zby=2->2<=d'.Zbe.length->aN d'.Zbq (d'.Zbe.getD 1 ⟨#[]⟩)=false/\d'.Zbe.length=2):uD d' :=
 ⟨fun n s a=>by rw[b]at a;exact F.fl n s a,fun n m s u a c=>by rw[b]at a c;exact F.ds n m s u a c,e⟩
theorem uD.ended(F:uD d)(b:Nat)(o:d'.Zbv=ig d.Zbv b)(p:d'.Zby=0):uD d':=by
 have q:∀(n:Nat) (s:St),d'.Zbv[n]?=some s->∃v,d.Zbv[n]?=some v/\s.Zby=v.Zby/\s.Zbe=v.Zbe/\(s.til=v.til∨(v.til=0/\s.til=d.Zbv.length)):=fun n s a=>by
  rw[o]at a;obtain⟨v,f,z⟩:=qA a;refine⟨v,f,?_⟩;rw[z];split
  ·unfold ma;split
   ·next c=>exact⟨rfl,rfl,XK ⟨c.1,rfl⟩⟩
   ·exact⟨rfl,rfl,XQ rfl⟩
  ·exact⟨rfl,rfl,XQ rfl⟩
 refine⟨fun n s a j=>?_,fun n m s u a y j k l w=>?_,fun h=>by rw[p]at h;cases h⟩
 ·obtain⟨v,f,g,i,-⟩:=q n s a;rw[i];exact F.fl n v f (by rw[<-g];exact j)
 ·obtain⟨v,f,g,i,e⟩:=q n s a;obtain⟨x,A,r,t,-⟩:=q m u y;unfold vr;rw[i,t];refine F.ds n m v x f A (by rw[<-g];exact j) (by rw[<-r];exact k) l ?_;rcases e with e | ⟨e,-⟩
  ·rw[<-e];exact w
  ·exact XQ e
theorem uD.more(R:jT T d)(E:vL T (aj T) d)(F:uD d)(u:St)(l:u.Zby=2->u.Zbe.length=2/\aN d.Zbq (vr u)=false)(o:d'.Zbv=d.Zbv++[u])(p:d'.Zby=0):uD d':=by
 have q:∀(n:Nat) (s:St),d'.Zbv[n]?=some s->(n<d.Zbv.length/\d.Zbv[n]?=some s)∨(n=d.Zbv.length/\s=u):=fun n s a=>by
  rw[o]at a;by_cases g:n<d.Zbv.length
  ·rw[XP g]at a;exact XQ ⟨g,a⟩
  ·have:=(XL.1 a).1;rw[XC]at this;have:n<d.Zbv.length+1:=this;rw[XO (by omega),show n-d.Zbv.length=0 by omega]at a;cases a
   exact XK ⟨by omega,rfl⟩
 refine⟨fun n s a b=>?_,fun n m s x a A b c k v=>?_,fun h=>by rw[p]at h;cases h⟩
 ·rcases q n s a with ⟨-,h⟩ | ⟨-,rfl⟩
  ·exact F.fl n s h b
  ·exact(l b).1
 ·rcases q m x A with ⟨y,t⟩ | ⟨y,rfl⟩
  ·rcases q n s a with ⟨-,f⟩ | ⟨g,-⟩
   ·exact F.ds n m s x f t b c k v
   ·omega
  ·rcases q n s a with ⟨-,f⟩ | ⟨g,-⟩
   ·have w:=R.hel.le n s f;have r:s.til=0:=(by omega);have i:=R.Zbq E F f b r;have j:=(l c).2;cases z:((vr s).toList==(vr x).toList)
    ·rfl
    ·have e:(vr s).toList=(vr x).toList:=(by simpa using z);unfold aN at i j;rw[e]at i;rw[i]at j;cases j
   ·omega
theorem uD.step(y:xb T d)(x:vL T (aj T) d)(R:jT T d)(F:uD d)(p:Pl)(f:(aY d t.s p).1=0):uD (aY d t.s p).2:=by
 rcases y with ⟨E,i,j,m,w⟩ | ⟨E,i,j,m,w,I,H⟩ | ⟨K,v,B,i,G,O,D,N,m,j,J,w,M⟩
 ·have e:aY d t.s p=aC d t.s:=by unfold aY;rw[i];rfl
  rw[e]at f ⊢;unfold aC bS cZ at *;have k:∀d':Db,d'.Zbv=d.Zbv->d'.Zby≠2->uD d':=fun d' l n=>F.same l (fun h=>absurd h n)
  repeat' split
  all_goals first
   | exact F
   | exact F.ended _ rfl i
   | exact k _ rfl (by rw[show _=_ from i];decide)
   | exact k _ rfl (by simp only;decide)
   | exact k _ rfl (by simp only;rw[i];decide)
   | exact k _ rfl (by show d.Zby≠2;rw[i];decide)
 ·have e:aY d t.s p=aJ d t.s:=by unfold aY;rw[i];rfl
  rw[e]at f ⊢;have k:∀d':Db,d'.Zbv=d.Zbv->d'.Zbe=d.Zbe->uD d':=fun d' l n=>F.same l (fun _ h=>by rw[n,j]at h;simp at h);unfold aJ
  repeat' split
  all_goals exact k _ rfl rfl
 ·rw[qS D]at f ⊢;by_cases u:(t.s.toList == [36,46])=true
  ·rw[XA u]at f ⊢;unfold l9 at *;split at f
   ·cases f
   ·next r =>
    rw[Xz r];split at f
    ·cases f
    ·next A =>
     rw[Xz A];simp only;cases c:((d.Zby==7)||(d.Zby==8))
     ·simp only[Bool.or_eq_false_iff]at c;have o:(aW d p).Zbv=d.Zbv++[⟨d.Zby,d.Zbz,d.Zbe,d.Zbp,p,0⟩]:=by
       unfold aW om jg;rw[c.1,c.2];simp only[Bool.false_eq_true,if_false];split <;> rfl
      refine uD.more R x F ⟨d.Zby,d.Zbz,d.Zbe,d.Zbp,p,0⟩ (fun b=>?_) o rfl;replace b:d.Zby=2:=b;have a:2<=d.Zbe.length:=by
       unfold oe at r;rw[XA (XK (by rw[b];rfl))]at r;omega
      exact⟨(F.op b a).2,(F.op b a).1⟩
     ·have o:(aW d p).Zbv=d.Zbv:=by
       unfold aW eK;rw[Yo]at c;split
       ·rfl
       ·next q=>rw[XA (c.resolve_left q)]
      exact F.same o (fun h=>by cases h)
  ·rw[Xz u]at f ⊢;split
   ·unfold cr;split <;> exact F.same rfl F.op
   ·split
    ·exact F
    ·split
     ·exact F.same rfl F.op
     ·split
      ·next C =>
       refine F.same rfl (fun b a=>?_);replace b:d.Zby=2:=b;replace a:2<=(d.Zbe++[t.s]).length:=a;rw[XC]at a;replace a:2<=d.Zbe.length+1:=a;have g:bh d t.s=0:=by simpa using C
       unfold bh at g;rw[b,Xz (by decide),Xz (by decide),Xz (by decide),Xz (by omega),XA (by rfl)]at g;unfold fF at g;split at g
       ·cases g
       ·next L =>
        split at g
        ·cases g
        ·split at g
         ·cases g
         ·next z =>
          refine⟨?_,by show(d.Zbe++[t.s]).length=2;rw[XC];show d.Zbe.length+1=2;omega⟩;show aN d.Zbq ((d.Zbe++[t.s]).getD 1 ⟨#[]⟩)=false;have l:(d.Zbe++[t.s]).getD 1 ⟨#[]⟩=t.s:=by
           rw[Xw,XO (by omega),show 1-d.Zbe.length=0 by omega];rfl
          rw[l];simpa using z
      ·exact F
theorem jT.flo(R:jT T d)(F:uD d):FlE T (aj T):=by
 intro j i c;have a:j∈nU (aj T):=Yt.2 ⟨XI.2 i,by unfold pa;rw[c];simp⟩;rw[AW]at a;obtain⟨n,b,rfl⟩:=YN.1 a;have b:n<d.Zbv.length:=by rw[R.hel.len];exact XI.1 b
 obtain⟨s,k,f,-,g⟩:=R.get b;have l:s.Zby=2:=by
  have:=(fQ f).2.1;rw[c]at this;simpa using this
 have e:=F.fl n s k l;rw[g]at e;exact⟨Y5 e.symm,FS T _ 1 (by omega)⟩
end
end Go.Proofs.YtpdholcaobgofaaGreat

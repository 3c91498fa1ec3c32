import Derived.Test.YtnbhnocdhbcbcaaGreatK07
import Derived.Test.YtnbhnocdhbcbcaaGreatK18
import Derived.Test.YtnbhnocdhbcbcaaGreatK23
namespace Go.Proofs.YtnbhnocdhbcbcaaGreat
open Go.RowKit Tryz
open Value IntKind Ending
set_option maxHeartbeats 0
variable{o:List UInt8}{D:Int}{l:Xs}{f:Xt}{w i:Nat}{y:Db}{b:List Sm}{I:Sm}{H:List St}{x:Xv}{k:St}(v:List Sm)(L:Sm)
theorem Dk(l:Xt):∀v x,aK (eU v l) x=(aK v x||aK l x):=by
 induction l with
 | nil=>intro v x;rw[ju,Vr];rfl
 | cons a l f =>
  intro v x;have e:eU v (a :: l)=eU (if aK v a=true then v else v++[a]) l:=rfl;have b:aK (a :: l) x=((a.toList==x.toList)||aK l x):=rfl;rw[e,f,b];by_cases h:aK v a=true
  ·rw[TJ h];cases c:(a.toList==x.toList)
   ·rw[U0]
   ·have d:aK v x=true:=by
     have:a.toList=x.toList:=(by simpa using c);unfold aK at h ⊢;rw[<-this];exact h
    rw[d];rfl
  ·rw[TH h,xL,sO,Wk]
section
variable {T:List Tk} {t:Tk} {d:Db}
theorem pj(b:fm o d.Yd)(x:Xs)(p:Pl):aZ d x p =
  if(x.toList == [36,46])=true then mt d p
  else if(x.toList == [36,61])=true/\(d.Yd==5)=true/\d.XQ=false then cv d
  else if dC x=true then(8,d)
  else if d.XQ=true then(0,{ d with XY:=d.XY++[(x,p)] })
  else if(bi d x==0)=true then(0,{ d with XM:=d.XM++[x] })
  else(bi d x,d):=by
 have a:(d.Yd==0)=false/\(d.Yd==6)=false:=by
  generalize d.Yd=k at b
  (rcases b with ⟨rfl,rfl⟩ | ⟨rfl,rfl⟩ | ⟨rfl,rfl⟩ | ⟨rfl,rfl⟩ | ⟨rfl,rfl⟩ | ⟨rfl,rfl⟩ | ⟨rfl,rfl⟩) <;> exact⟨by decide,by decide⟩
 unfold aZ;rw[a.1,a.2,TH (by simp),TH (by simp)]
theorem Rj(a:fm o D):(D==5)=(o == [36,112]):=by(rcases a with ⟨rfl,rfl⟩ | ⟨rfl,rfl⟩ | ⟨rfl,rfl⟩ | ⟨rfl,rfl⟩ | ⟨rfl,rfl⟩ | ⟨rfl,rfl⟩ | ⟨rfl,rfl⟩) <;> decide
theorem MB(I:tA T (aa T) d)(j:fm l.toList d.Yd)(c:d.XM=f)(m:(aA l||aH l)=false->d.XV=ki T (aa T))(x:Xs) :
  (if((l.toList == [36,99])||(l.toList == [36,118]))=true then j7 T (aa T) x (aa T).length (l.toList == [36,99]) f else io T (aa T) l x (aa T).length f)=bi d x:=by
 have b:=fun h=>Ez I (m h) x;have a:=fun h=>Lz I (m h) x;have e:iG T (aa T) x (aa T).length=aK d.XW x:=by rw[Jd,<-I.act.l]
 have g:eK T (aa T) x (aa T).length=aK d.XO x:=by rw[uU,<-I.con]
 have i:decide (0<=gK T (aa T) x (aa T).length)=aK d.XZ x:=by rw[JS,<-I.typ.l]
 obtain⟨n,o,-⟩:=jW (k:=l) rfl;unfold j7 io bi jC jD gi f8;rw[c];have p:(gK T (aa T) x (aa T).length<0) ↔ aK d.XZ x=false:=by
  rw[<-i];simp
 have q:(0<=gK T (aa T) x (aa T).length) ↔ aK d.XZ x=true:=by
  rw[<-i];simp
 generalize hkl:l.toList=r at *;generalize d.Yd=k at j ⊢;simp only[e,g,p,q];rw[n,o]at b a;rcases j with ⟨rfl,rfl⟩ | ⟨rfl,rfl⟩ | ⟨rfl,rfl⟩ | ⟨rfl,rfl⟩ | ⟨rfl,rfl⟩ | ⟨rfl,rfl⟩ | ⟨rfl,rfl⟩
 ·have b:=b (by decide);rw[b];simp only[show(([36,99]:List UInt8) == [36,99])=true from by decide,show((7:Int)==7)=true from rfl,Bool.true_or,if_true,Bool.true_and,Bool.not_true,Bool.false_and,Bool.false_eq_true,if_false];cases aK f x <;> cases eC d x <;> simp
 ·have a:=a (by decide);rw[e,g]at a;rw[a];simp only[show(([36,118]:List UInt8) == [36,99])=false from by decide,show(([36,118]:List UInt8) == [36,118])=true from by decide,show((8:Int)==7)=false from rfl,show((8:Int)==8)=true from rfl,Bool.or_true,if_true,Bool.false_and,Bool.not_false,Bool.true_and,Bool.false_eq_true,if_false];cases aK f x <;> cases fc d x <;> simp
 ·simp only[show(([36,100]:List UInt8) == [36,99])=false from by decide,show(([36,100]:List UInt8) == [36,118])=false from by decide,show(([36,100]:List UInt8) == [36,100])=true from by decide,show((1:Int)==7)=false from rfl,show((1:Int)==8)=false from rfl,show((1:Int)==1)=true from rfl,Bool.or_false,if_true,Bool.false_eq_true,if_false]
 ·simp only[show(([36,102]:List UInt8) == [36,99])=false from by decide,show(([36,102]:List UInt8) == [36,118])=false from by decide,show(([36,102]:List UInt8) == [36,100])=false from by decide,show(([36,102]:List UInt8) == [36,102])=true from by decide,show((2:Int)==7)=false from rfl,show((2:Int)==8)=false from rfl,show((2:Int)==1)=false from rfl,show((2:Int)==2)=true from rfl,Bool.or_false,if_true,Bool.false_eq_true,if_false,beq_iff_eq]
 ·simp only[show(([36,101]:List UInt8) == [36,99])=false from by decide,show(([36,101]:List UInt8) == [36,118])=false from by decide,show(([36,101]:List UInt8) == [36,100])=false from by decide,show(([36,101]:List UInt8) == [36,102])=false from by decide,show((3:Int)==7)=false from rfl,show((3:Int)==8)=false from rfl,show((3:Int)==1)=false from rfl,show((3:Int)==2)=false from rfl,Bool.or_false,Bool.false_eq_true,if_false,beq_iff_eq]
 ·simp only[show(([36,97]:List UInt8) == [36,99])=false from by decide,show(([36,97]:List UInt8) == [36,118])=false from by decide,show(([36,97]:List UInt8) == [36,100])=false from by decide,show(([36,97]:List UInt8) == [36,102])=false from by decide,show((4:Int)==7)=false from rfl,show((4:Int)==8)=false from rfl,show((4:Int)==1)=false from rfl,show((4:Int)==2)=false from rfl,Bool.or_false,Bool.false_eq_true,if_false,beq_iff_eq]
 ·simp only[show(([36,112]:List UInt8) == [36,99])=false from by decide,show(([36,112]:List UInt8) == [36,118])=false from by decide,show(([36,112]:List UInt8) == [36,100])=false from by decide,show(([36,112]:List UInt8) == [36,102])=false from by decide,show((5:Int)==7)=false from rfl,show((5:Int)==8)=false from rfl,show((5:Int)==1)=false from rfl,show((5:Int)==2)=false from rfl,Bool.or_false,Bool.false_eq_true,if_false,beq_iff_eq]
theorem Q4(j:fm l.toList d.Yd)(b:d.XQ=aK f ⟨#[36,61]⟩)(e:d.XM=f.takeWhile jz)(c:d.XQ=true->d.Yd=5/\d.XM≠[])(p:Pl):ja l f=(mt d p).1/\((mt d p).1=0->(mt d p).2={ aX d p with Yd:=0,Ye:=⟨#[]⟩,XM:=[],XQ:=false,XY:=[] }/\(d.Yd=2->1<d.XM.length)):=by
 have n:d.XQ=false->d.XM=f:=fun h=>by rw[e];exact tZ f (by rw[<-b];exact h)
 have o:d.XQ=true->0<f.length/\0<d.XM.length:=fun h=>by
  refine⟨?_,Wv.2 (c h).2⟩;rw[b]at h;cases f with
  | nil=>cases h
  | cons a f=>simp
 unfold ja mt mP;rw[<-b];generalize hkl:l.toList=r at *;generalize hkk:d.Yd=k at *;clear e b;cases i:d.XQ
 ·rw[n i];generalize f.length=m
  (rcases j with ⟨rfl,rfl⟩ | ⟨rfl,rfl⟩ | ⟨rfl,rfl⟩ | ⟨rfl,rfl⟩ | ⟨rfl,rfl⟩ | ⟨rfl,rfl⟩ | ⟨rfl,rfl⟩) <;> simp <;> (repeat' split) <;> simp_all <;> omega
 ·obtain⟨t,u⟩:=o i;have g:=(c i).1;subst g;generalize f.length=m at *;generalize d.XM.length=s at *;rcases j with ⟨-,h⟩ | ⟨-,h⟩ | ⟨-,h⟩ | ⟨-,h⟩ | ⟨-,h⟩ | ⟨-,h⟩ | ⟨rfl,-⟩
  all_goals first | (exfalso;revert h;decide) | skip
  simp
  (repeat' split) <;> simp_all <;> omega
end
section
variable {T:List Tk} {t:Tk} {d:Db}
theorem Bz:∀{x:Xs},(x.toList == [36,46])=true->cd x=true/\ii x ⟨#[36]⟩=true:=fun {x} h=>by
 rw[(jW (dr h)).2.2,GE (dr h)];decide +kernel
theorem GC(Z:iZ T (aa T) (aa T).length)(fo:mT T (aa T) (aa T).length)(I:tA T (aa T) d)(hk:ee T (fA T)=(l,w))(O:fA T<w)(X:w<=T.length)(K:fm l.toList d.Yd)(J:eF T w T.length=f)(U:d.XM=f.takeWhile jz)(R:d.XQ=true->d.Yd=5/\d.XM≠[])(hl:d.XV=ki T (aa T)++(if(aA l||aH l)=true then [tS T (fA T)] else []))(h0:(aA l||aH l)=true->((tS T (fA T)).toList == [])=false)(Y:(t.s.toList == [36,46])=true)(p:Pl)(G:d.Yd=2->1<d.XM.length)(M:d.XQ=false->d.XM=f)(v:y={ aX d p with Yd:=0,Ye:=⟨#[]⟩,XM:=[],XQ:=false,XY:=[] }) :
  tA (T++[t]) (aa (T++[t])) y/\uK (T++[t]) y:=by
 obtain⟨W,-⟩:=Bz Y;obtain⟨C,V⟩:=nV T t;rw[TJ W,oX hk O X K]at C;rw[TJ W]at V;simp only at C;have r:bu (T++[t]) w=d.XM:=by
  unfold bu;rw[UP X,tJ _ t (fun u hu=>?_) Y,U,<-J,ma];have:=vo T w (by omega) u hu;unfold cd at this;simp only[Bool.or_eq_false_iff]at this;exact this.1.1
 have D:=K.dep.1;obtain⟨s,H⟩:∃s:Sm,s=⟨fA T,T.length+1,w,l⟩:=⟨_,rfl⟩
 rw[<-H]at C;have q:s.k=l:=by rw[H]
 have B:s.h=w:=by rw[H]
 have S:s.a=fA T:=by rw[H]
 have v1:EH (T++[t]) (aa T++[s]) (aa T).length=if(l.toList == [36,118])=true then d.XM else []:=by
  unfold EH;rw[lx,q,B,r]
 have v2:JE (T++[t]) (aa T++[s]) (aa T).length=if(l.toList == [36,99])=true then d.XM else []:=by
  unfold JE;rw[lx,q,B,r]
 have v3:In (T++[t]) (aa T++[s]) (aa T).length=if(l.toList == [36,102])=true then [tS (T++[t]) (w+1)] else []:=by
  unfold In;rw[lx,q,B]
 have E:ki (T++[t]) (aa T++[s])=d.XV:=by
  rw[vh s Z,hl];congr 1;cases L:(aA l||aH l)
  ·rw[TH (by simp)];exact FD (by rw[q];exact L)
  ·have e:tS (T++[t]) s.a=tS T (fA T):=(by rw[S,fY T [t] _ (by omega)]);rw[TJ rfl,<-e];exact Pw (by rw[q];exact L) (by rw[e];exact h0 L)
 have Q:fA (T++[t])=(T++[t]).length:=by rw[V];simp
 have dv:y.XO=(aX d p).XO/\y.XP=(aX d p).XP/\y.XW=(aX d p).XW/\y.XZ=(aX d p).XZ/\y.Yf=(aX d p).Yf/\y.XV=(aX d p).XV:=by
  rw[v];exact⟨rfl,rfl,rfl,rfl,rfl,rfl⟩
 obtain⟨b,c,g,i,j,m⟩:=dv;rw[C];have A:y.XO=d.XO++(if(l.toList == [36,99])=true then d.XM else [])->(∀x,aK y.XP x=(aK d.XP x||aK (if(l.toList == [36,118])=true then d.XM else []) x))->y.XW=d.XW++(if(l.toList == [36,118])=true then d.XM else [])->y.XZ=d.XZ++(if(l.toList == [36,102])=true then [tS (T++[t]) (w+1)] else [])->y.Yf=d.Yf->y.XV=d.XV->tA (T++[t]) (aa T++[s]) y/\uK (T++[t]) y:=fun g1 g2 g3 g4 g5 g6 =>
  ⟨I.close Z fo s (fun o=>by rw[q];exact D o) (by rw[v2];exact g1) (fun x=>by rw[v1];exact g2 x) (by rw[v1];exact g3) (by rw[v3];exact g4) g5,
   uK.none Q (by rw[v]) (by rw[v]) (by rw[v]) (by rw[C,E];exact g6)⟩
 -- the seven keys
 have n:∀k:Int,d.Yd=k->(k==7)=false->(k==8)=false->(k==2)=false->aX d p=nF d p:=fun k N e7 e8 e2=>by
  unfold aX nX;rw[N,e7,e8,e2];simp
 generalize hkl:l.toList=ac at *;generalize hkk:d.Yd=k at *;rcases K with ⟨rfl,rfl⟩ | ⟨rfl,rfl⟩ | ⟨rfl,rfl⟩ | ⟨rfl,rfl⟩ | ⟨rfl,rfl⟩ | ⟨rfl,rfl⟩ | ⟨rfl,rfl⟩
 ·have e:aX d p={ d with XO:=d.XO++d.XM }:=by unfold aX;rw[hkk];rfl
  rw[e]at b c g i j m;exact A (by rw[b];rfl) (fun x=>by rw[c];simp[ju]) (by rw[g];simp) (by rw[i];simp) j m
 ·have e:aX d p=eD d d.XM.length:=by unfold aX;rw[hkk];rfl
  rw[e]at b c g i j m;unfold eD at b c g i j m;exact A (by rw[b];simp) (fun x=>by rw[c];simp only[List.take_length];rw[Dk];rfl) (by rw[g];rfl) (by rw[i];simp) j m
 ·have e:=n 1 rfl rfl rfl rfl;rw[e]at b c g i j m;unfold nF at b c g i j m;exact A (by rw[b];simp) (fun x=>by rw[c];simp[ju]) (by rw[g];simp) (by rw[i];simp) j m
 ·have G:=G rfl;have P:d.XQ=false:=by
   cases h:d.XQ
   ·rfl
   ·exact absurd (R h).1 (by decide)
  have F:=M P;have e:aX d p=nF { d with XZ:=d.XZ++[d.XM.getD 1 ⟨#[]⟩] } p:=by
   unfold aX nX;rw[hkk,TH (by decide),TH (by decide),TJ ⟨rfl,G⟩]
  have hg:d.XM.getD 1 ⟨#[]⟩=tS (T++[t]) (w+1):=by
   have z:w+1<T.length:=by
    rw[F,<-J,ma,Uh,UK]at G;omega
   rw[F,<-J,ma,fY T [t] _ z];unfold tS;rw[TG,TG,Uo,VP,TF z];rfl
  rw[e]at b c g i j m;unfold nF at b c g i j m;exact A (by rw[b];simp) (fun x=>by rw[c];simp[ju]) (by rw[g];simp) (by rw[i,hg];rfl) j m
 ·have e:=n 3 rfl rfl rfl rfl;rw[e]at b c g i j m;unfold nF at b c g i j m;exact A (by rw[b];simp) (fun x=>by rw[c];simp[ju]) (by rw[g];simp) (by rw[i];simp) j m
 ·have e:=n 4 rfl rfl rfl rfl;rw[e]at b c g i j m;unfold nF at b c g i j m;exact A (by rw[b];simp) (fun x=>by rw[c];simp[ju]) (by rw[g];simp) (by rw[i];simp) j m
 ·have e:=n 5 rfl rfl rfl rfl;rw[e]at b c g i j m;unfold nF at b c g i j m;exact A (by rw[b];simp) (fun x=>by rw[c];simp[ju]) (by rw[g];simp) (by rw[i];simp) j m
theorem Cb(n:iZ T (aa T) (aa T).length)(z:mT T (aa T) (aa T).length)(I:tA T (aa T) d)(D:ee T (fA T)=(l,w))(b:fA T<w)(m:w<=T.length)(k:fm l.toList d.Yd)(B:eF T w T.length=f)(E:d.XV=ki T (aa T)++(if(aA l||aH l)=true then [tS T (fA T)] else []))(A:(aA l||aH l)=true->((tS T (fA T)).toList == [])=false)(C:cd t.s=false)(o:y.XO=d.XO)(p:y.XP=d.XP)(q:y.XW=d.XW)(r:y.XZ=d.XZ)(u:y.Yf=d.Yf)(v:y.XV=d.XV)(x:y.Yd=d.Yd)(e:y.XQ=aK (f++[t.s]) ⟨#[36,61]⟩)(i:y.XM=(f++[t.s]).takeWhile jz)(g:y.XQ=true->y.Yd=5/\y.XM≠[]):tA (T++[t]) (aa (T++[t])) y/\uK (T++[t]) y:=by
 obtain⟨j,c⟩:=lX (T:=T) (t:=t) C;have a:tS (T++[t]) (fA (T++[t]))=tS T (fA T):=by rw[c,fY T [t] _ (by omega)]
 refine⟨by rw[j];exact I.same n z o p q r u,uK.body l w (f++[t.s]) (by rw[c];exact oX D b m k) (by rw[c];exact b) (by simp;omega) (by rw[x];exact k) (by rw[Mt t w m,B]) e i g ?_ (fun h=>by rw[a];exact A h)⟩;rw[j,rC n,a,v];exact E
theorem Lp(E:iZ T (aa T) (aa T).length)(u:mT T (aa T) (aa T).length)(I:tA T (aa T) d)(C:ee T (fA T)=(l,w))(b:fA T<w)(B:w<=T.length)(j:fm l.toList d.Yd)(A:eF T w T.length=f)(a:d.XQ=aK f ⟨#[36,61]⟩)(i:d.XM=f.takeWhile jz)(m:d.XQ=true->d.Yd=5/\d.XM≠[])(r:d.XV=ki T (aa T)++(if(aA l||aH l)=true then [tS T (fA T)] else []))(x:(aA l||aH l)=true->((tS T (fA T)).toList == [])=false)(p:Pl) :
  mH T (aa T) l t.s (aa T).length f=(aZ d t.s p).1/\((aZ d t.s p).1=0->tA (T++[t]) (aa (T++[t])) (aZ d t.s p).2/\uK (T++[t]) (aZ d t.s p).2):=by
 have k:d.XQ=false->d.XM=f:=fun h=>by rw[i];exact tZ f (by rw[<-a];exact h)
 have o:(⟨#[36,61]⟩:Xs).toList=[36,61]:=by decide +kernel
 rw[pj j];unfold mH;cases P:(t.s.toList == [36,46])
 ·simp only[Bool.false_eq_true,if_false];rw[<-a,<-Rj j];cases y:((t.s.toList == [36,61])&&((d.Yd==5) && !d.XQ))
  ·have G:¬((t.s.toList == [36,61])=true/\(d.Yd==5)=true/\d.XQ=false):=fun h=>by
    rw[h.1,h.2.1,h.2.2]at y;cases y
   simp only[Bool.false_eq_true,if_false];rw[TH G,iQ];cases N:dC t.s
   ·have c:cd t.s=false:=by
     cases K:cd t.s
     ·rfl
     ·have:=(lz K).1;rw[iQ,N]at this;cases this
    have L:(t.s.toList == [36,61])=false:=by
     cases K:(t.s.toList == [36,61])
     ·rfl
     ·have e:=GE (dr K);rw[iQ,N]at e;exact absurd e (by decide +kernel)
    simp only[Bool.false_eq_true,if_false];cases z:d.XQ
    ·have D:=k z;simp only[Bool.false_eq_true,if_false];have Q:=MB I j D (fun h=>by rw[r,TH (by rw[h];simp),Uk]) t.s;rw[Q];have g:aK (f++[t.s]) ⟨#[36,61]⟩=false:=by
      rw[xL,sO,<-a,z,o,L];rfl
     cases H:(bi d t.s==0)
     ·simp only[Bool.false_eq_true,if_false];exact⟨trivial,fun h=>by rw[h]at H;cases H⟩
     ·rw[TJ rfl];refine⟨by simpa using H,fun _=>Cb E u I C b B j A r x c rfl rfl rfl rfl rfl rfl rfl g.symm ?_ (fun h=>Bool.noConfusion h)⟩;rw[tZ _ g];simp only;rw[D]
    ·have O:aK f ⟨#[36,61]⟩=true:=(by rw[<-a];exact z);rw[TJ rfl,TJ rfl];exact⟨rfl,fun _=>Cb E u I C b B j A r x c rfl rfl rfl rfl rfl rfl rfl (by rw[xL,O,VD]) (by rw[Om _ _ O];exact i) (fun _=>m z)⟩
   ·rw[TJ rfl,TJ rfl];exact⟨rfl,fun h=>by cases h⟩
  ·simp only[Bool.and_eq_true,Bool.not_eq_true']at y;obtain⟨v,M,F⟩:=y;have D:=k F;rw[TJ rfl,TJ (show(t.s.toList == [36,61])=true/\(d.Yd==5)=true/\d.XQ=false from⟨v,M,F⟩)];unfold cv;rw[D];by_cases n:f.length=0
   ·rw[TJ n,TJ n];exact⟨rfl,fun h=>by cases h⟩
   ·rw[TH n,TH n];have c:cd t.s=false:=(by rw[(jW (dr v)).2.2];decide);have J:aK f ⟨#[36,61]⟩=false:=(by rw[<-a];exact F);have g:aK (f++[t.s]) ⟨#[36,61]⟩=true:=(by rw[xL,sO,o,v,WK]);refine⟨rfl,fun _=>Cb E u I C b B j A r x c rfl rfl rfl rfl rfl rfl rfl g.symm ?_ (fun _=>⟨by simpa using M,?_⟩)⟩
    ·have q:=M1 f J;rw[List.takeWhile_append_of_pos q,VK (by unfold jz;rw[v];simp),Uk]
    ·simp only;intro e;rw[e]at n;exact n rfl
 ·rw[TJ rfl,TJ rfl];obtain⟨R,S⟩:=Q4 j a i m p;refine⟨R,fun h=>?_⟩;obtain⟨U,V⟩:=S h;exact GC E u I C b B j A i m r x P p V k U
theorem qC(a:(l.toList == [36,123])=false)(b:(l.toList == [36,125])=false)(o:Int):aR o l=o:=by
 unfold aR;rw[a,b];rfl
theorem Bf(h:dC l=false)(o:Int):aR o l=o:=by
 have a:cd l=false:=by
  cases b:cd l
  ·rfl
  ·have:=(lz b).1;rw[iQ,h]at this;cases this
 unfold cd at a;simp only[Bool.or_eq_false_iff]at a;exact qC a.1.2 a.2 o
theorem xq(d:Db)(p:Pl):(aX d p).Yf=d.Yf:=by
 unfold aX eD nF nX;split
 ·rfl
 ·split
  ·rfl
  ·split <;> rfl
theorem Ey(o:uK T d)(x:Xs)(p:Pl)(h:(aZ d x p).1=0):((aZ d x p).2.Yf.length:Int)=aR (d.Yf.length:Int) x:=by
 rcases o with ⟨u,i,g,f,n⟩ | ⟨u,i,g,f,n,y,w⟩ | ⟨C,m,B,i,v,a,t,F,f,g,z,n,E⟩
 ·have e:aZ d x p=ay d x:=by unfold aZ;rw[i];rfl
  rw[e]at h ⊢;cases b:(x.toList == [36,123])
  ·cases c:(x.toList == [36,125])
   ·rw[qC b c];unfold ay bU;rw[b,c,TH (by simp),TH (by simp)]
    repeat' split
    all_goals rfl
   ·have j:ay d x=(match d.Yf.getLast? with | none=>(9,d) | some p=>(0,cQ d p)):=by
     unfold ay;rw[b,c,TH (by simp),TJ rfl];rfl
    rw[j]at h ⊢;cases k:d.Yf.getLast? with
    | none=>rw[k]at h;cases h
    | some q =>
     have r:0<d.Yf.length:=by
      rw[Wv];intro e;rw[e]at k;cases k
     have s:(cQ d q).Yf=d.Yf.dropLast:=by
      unfold cQ dw;split <;> rfl
     simp only;rw[s,sK (dr c),Vx]
     show((d.Yf.length-1:Nat):Int)=(d.Yf.length:Int)-1
     omega
  ·have j:ay d x=(0,{ d with Yf:=d.Yf++[(d.XW.length,d.XZ.length)],rbl:=d.rbl++[d.Ya.length] }):=by
    unfold ay;rw[b,TJ rfl]
   rw[j,sK (dr b)];simp only[List.length_append,List.length_cons,List.length_nil]
   show((d.Yf.length+(0+1):Nat):Int)=(d.Yf.length:Int)+1
   omega
 ·have e:aZ d x p=aJ d x:=by unfold aZ;rw[i];rfl
  rw[e]at h ⊢;have A:aR (d.Yf.length:Int) x=(d.Yf.length:Int):=by
   refine qC ?_ ?_ _
   ·cases a:(x.toList == [36,123])
    ·rfl
    ·exfalso
     unfold aJ at h;rw[cI a,cI a,cI a,cI a,TH (by decide),TH (by decide),TH (by decide),TH (by decide)]at h;cases h
   ·cases a:(x.toList == [36,125])
    ·rfl
    ·exfalso
     unfold aJ at h;rw[cI a,cI a,cI a,cI a,TH (by decide),TH (by decide),TH (by decide),TH (by decide)]at h;cases h
  rw[A];unfold aJ
  repeat' split
  all_goals rfl
 ·rw[pj t]at h ⊢;cases b:(x.toList == [36,46])
  ·rw[b,TH (by simp)]at h;rw[TH (by simp)];by_cases c:(x.toList == [36,61])=true/\(d.Yd==5)=true/\d.XQ=false
   ·rw[TJ c,qC (by rw[cI c.1];decide) (by rw[cI c.1];decide)];unfold cv;split <;> rfl
   ·rw[TH c]at h ⊢;cases l:dC x
    ·rw[Bf l,TH (by simp)]
     repeat' split
     all_goals rfl
    ·rw[l,TJ rfl]at h;cases h
  ·rw[TJ rfl,qC (by rw[cI b];decide) (by rw[cI b];decide)];unfold mt;split
   ·rfl
   ·split
    ·rfl
    ·simp only;rw[xq]
end
def kF(S:List Sm)(j:Nat):Bool:=((aq S j).k.toList == [36,100])||((aq S j).k.toList == [36,102])||((aq S j).k.toList == [36,101])||((aq S j).k.toList == [36,97])||((aq S j).k.toList == [36,112])
def lF(S:List Sm):Xv:=(List.range S.length).filter (kF S)
def aw(S:List Sm)(n:Nat):Nat:=(lF S).getD n S.length
theorem Ng(j:Nat)(a:j<v.length):kF (v++[L]) j=kF v j:=by
 unfold kF;rw[jJ v [L] j a]
theorem nB:lF (v++[L])=lF v++(if kF (v++[L]) v.length=true then [v.length] else []):=by
 unfold lF;rw[cN,U9,UV,gj (fun j a=>Ng v L j a)];congr 1;cases h:kF (v++[L]) v.length <;> simp[h]
theorem Qf(h:(lF b)[w]?=some i):i<b.length:=by
 have:=Vg h;exact TY.1 (Ux.1 this).1
theorem Qe(h:w<(lF b).length):aw b w<b.length:=by
 have e:(lF b)[w]?=some (aw b w):=by unfold aw;rw[TG,TF h];rfl
 exact Qf e
theorem NN:aw v (lF v).length=v.length:=by
 unfold aw;rw[TG,UA (TI _)];rfl
theorem NM(h:w<(lF b).length):aw (b++[I]) w=aw b w:=by
 unfold aw;rw[nB,TG,TG,Uf h,TF h];rfl
theorem ge{S:List Sm}{n a:Nat}(h:n<a)(b:a<(lF S).length):aw S n<aw S a:=by
 have c:(lF S).Pairwise (· < ·):=WX _ Wg;have:=V5.1 c n a (by omega) b h;unfold aw;rw[TG,TG,TF b,TF (by omega)];exact this
theorem tF(a:w<=i)(c:i<=b.length):aP (b++[I]) w i=aP b w i:=by
 unfold aP;rw[UP (by omega),Vc (by rw[UK];omega)]
theorem rt(a:w<=b.length):bA (b++[I]) w=bA b w:=by
 unfold bA;rw[Vc a]
theorem Ib(a:w<=b.length):aP (b++[I]) w (b.length+1)=(aP b w b.length&&decide (bA b w<=aR (bA b b.length) I.k)):=by
 rw[oO (b++[I]) w b.length a (by rw[cN];omega),tF a (TI _),rt a,iO]
theorem AQ(a:w<=b.length)(h:aP b w b.length=true):bA b w<=bA b b.length:=AS b w b.length a (TI _) h b.length a (TI _)
theorem oN(a:w<=b.length)(c:∀o,o<=aR o I.k):aP (b++[I]) w (b.length+1)=aP b w b.length:=by
 rw[Ib a];cases h:aP b w b.length
 ·rfl
 ·have:=AQ a h;have:=c (bA b b.length);simp;omega
structure ov(S:List Sm)(l:List St)(rb:Xv):Prop where
 len:l.length=(lF S).length
 til:∀(n:Nat) (s:St),l[n]?=some s->oC s.Yd=false->∀a,n<a->a<=l.length->(s.til==0||decide (a<s.til))=aP S (aw S n) (aw S a)
 le:∀(n:Nat) (s:St),l[n]?=some s->s.til<=l.length
 dep:bA S S.length=(rb.length:Int)
 rbl:∀i,i<rb.length->rb.getD i 0<=l.length/\∀n,n<l.length->aP S (aw S n) S.length=true->(rb.getD i 0<=n ↔ (i:Int)<bA S (aw S n))
theorem ov.nil:ov [] [] []:=⟨rfl,(fun n s h=>by cases h),(fun n s h=>by cases h),rfl,fun i h=>by cases h⟩
theorem ov.at_(h:ov b H x)(a:w<H.length):aw b w<b.length:=Qe (by rw[<-h.len];exact a)
theorem ov.ix(h:ov b H x)(s:Sm)(a:w<H.length):aw (b++[s]) w=aw b w:=NM (by rw[<-h.len];exact a)
theorem ov.ixEnd(h:ov b H x):aw b H.length=b.length:=by rw[h.len];exact NN b
theorem ov.now(h:ov b H x)(a:H[w]?=some k)(c:oC k.Yd=false):(k.til==0)=aP b (aw b w) b.length:=by
 have d:=(TT.1 a).1;have:=h.til w k a c H.length d (TI _);rw[h.ixEnd]at this;rw[<-this];have:=h.le w k a;rw[Ve (by omega),Vr]
theorem ov.other(h:ov b H x)(s:Sm)(G:kF (b++[s]) b.length=false)(u:∀o,o<=aR o s.k)(f:Xv)(F:aR (bA b b.length) s.k=f.length)(E:f=x∨f=x++[H.length]):ov (b++[s]) H f:=by
 have e:lF (b++[s])=lF b:=by rw[nB,TH (by rw[G];simp),Uk]
 have A:aw (b++[s]) H.length=b.length+1:=by
  unfold aw;rw[e,TG,UA (by rw[h.len];exact TI _)];exact cN b s
 refine⟨by rw[e];exact h.len,fun n t v y a g l=>?_,h.le,by rw[cN,iO];exact F,fun i j=>?_⟩
 ·have d:=(TT.1 v).1;have m:=h.at_ d;rw[h.ix s d];by_cases B:a=H.length
  ·subst B;rw[A,oN (by omega) u,h.til n t v y _ g l,h.ixEnd]
  ·have c:a<H.length:=(by omega);have:=h.at_ c;have r:aw b n<=aw b a:=UO (ge g (by rw[<-h.len];exact c));rw[h.ix s c,tF r (by omega)];exact h.til n t v y a g l
 ·rw[cN];have p:∀i,i<x.length->x.getD i 0<=H.length/\∀n,n<H.length->aP (b++[s]) (aw (b++[s]) n) (b.length+1)=true->(x.getD i 0<=n ↔ (i:Int)<bA (b++[s]) (aw (b++[s]) n)):=fun i j=>by
   obtain⟨C,D⟩:=h.rbl i j;refine⟨C,fun n d c=>?_⟩;have m:=h.at_ d;rw[h.ix s d]at c ⊢;rw[oN (by omega) u]at c;rw[rt (by omega)];exact D n d c
  rcases E with rfl | rfl
  ·exact p i j
  ·rw[TO]at j;replace j:i<x.length+1:=j;by_cases w:i<x.length
   ·have q:(x++[H.length]).getD i 0=x.getD i 0:=(by rw[TG,TG,Uf w]);rw[q];exact p i w
   ·have q:i=x.length:=(by omega);subst q;have z:(x++[H.length]).getD x.length 0=H.length:=by rw[TG,Ua (TI _),UM];rfl
    rw[z];refine⟨TI _,fun n d c=>?_⟩;have m:=h.at_ d;rw[h.ix s d]at c ⊢;rw[oN (by omega) u]at c;rw[rt (by omega)];have:=AQ (by omega) c;have:=h.dep;omega
theorem ov.Yb(h:ov b H x)(s:Sm)(K:kF (b++[s]) b.length=true)(B:∀o,aR o s.k=o)(t:St)(L:t.til=0):ov (b++[s]) (H++[t]) x:=by
 have d:∀o,o<=aR o s.k:=fun o=>by rw[B o];exact Wo _
 have e:lF (b++[s])=lF b++[b.length]:=by rw[nB,TJ K]
 have m:(H++[t]).length=H.length+1:=by rw[TO];rfl
 have q:aw (b++[s]) H.length=b.length:=by
  unfold aw;rw[e,h.len,TG,Ua (TI _),UM];rfl
 have A:aw (b++[s]) (H.length+1)=b.length+1:=by
  unfold aw;rw[e,TG,UA (by rw[TO,h.len];exact TI _)];exact cN b s
 have f:aP (b++[s]) b.length (b.length+1)=true:=by
  rw[oN (TI _) d];exact CC b b.length
 refine⟨by rw[m,e,TO,h.len];rfl,fun n u c w a l v=>?_,fun n u c=>?_,by rw[cN,iO,B];exact h.dep,fun i J=>?_⟩
 ·rw[m]at v;by_cases g:n<H.length
  ·rw[Uf g]at c;have z:=h.at_ g;have M:=h.le n u c;rw[h.ix s g];by_cases j:a<H.length
   ·have:=h.at_ j;have y:aw b n<=aw b a:=UO (ge l (by rw[<-h.len];exact j));rw[h.ix s j,tF y (by omega)];exact h.til n u c w a l (by omega)
   ·by_cases D:a=H.length
    ·subst D;rw[q,tF (by omega) (TI _),<-h.now c w,Ve (by omega),Vr]
    ·have E:a=H.length+1:=(by omega);subst E;rw[A,oN (by omega) d,<-h.now c w,Ve (by omega),Vr]
  ·have F:n=H.length:=(by omega);have j:a=H.length+1:=(by omega);subst F j;rw[Ua (TI _),UM]at c;cases c
   rw[q,A,f,L];rfl
 ·rw[m];by_cases g:n<H.length
  ·rw[Uf g]at c;have:=h.le n u c;omega
  ·have:=(TT.1 c).1;rw[m]at this;rw[Ua (by omega),show n-H.length=0 by omega]at c;cases c
   omega
 ·obtain⟨G,I⟩:=h.rbl i J;rw[m,cN];refine⟨by omega,fun n g r=>?_⟩;by_cases p:n<H.length
  ·have z:=h.at_ p;rw[h.ix s p]at r ⊢;rw[oN (by omega) d]at r;rw[rt (by omega)];exact I n p r
  ·have C:n=H.length:=(by omega);subst C;rw[q,rt (TI _),h.dep];constructor
   ·intro _;omega
   ·intro _;exact G
theorem oR(h:(kE H w)[i]?=some k):∃v,H[i]?=some v/\k=(if w<=i/\i<H.length then lK H.length v else v):=by
 unfold kE at h;rw[nt]at h;cases e:H[i]? with
 | none=>rw[e]at h;cases h
 | some v=>rw[e]at h;simp only[Option.map_some,Option.some.injEq]at h;exact⟨v,rfl,h.symm⟩
theorem ov.pop(h:ov b H (x++[w]))(s:Sm)(R:kF (b++[s]) b.length=false)(J:∀o,aR o s.k=o-1):ov (b++[s]) (kE H w) x:=by
 have e:lF (b++[s])=lF b:=by rw[nB,TH (by rw[R];simp),Uk]
 have t:(kE H w).length=H.length:=kR H w H.length;have N:aw (b++[s]) H.length=b.length+1:=by
  unfold aw;rw[e,TG,UA (by rw[h.len];exact TI _)];exact cN b s
 have P:bA b b.length=(x.length:Int)+1:=by rw[h.dep,TO];rfl
 obtain⟨B,l⟩:=h.rbl x.length (by rw[TO];exact Nat.lt_succ_self _);have M:(x++[w]).getD x.length 0=w:=by rw[TG,Ua (TI _),UM];rfl
 rw[M]at B l;have K:∀n,n<H.length->aP (b++[s]) (aw b n) (b.length+1)=(aP b (aw b n) b.length&&decide (n<w)):=fun n d=>by
  have p:=h.at_ d;rw[Ib (by omega)];cases g:aP b (aw b n) b.length
  ·rfl
  ·have q:=l n d g;have:=AQ (by omega) g;rw[J,Vk,Vk];by_cases c:n<w
   ·rw[U6 c];exact U6 (by omega)
   ·rw[Ve c];exact Ve (by omega)
 refine⟨by rw[t,e];exact h.len,fun n u D m a r A=>?_,fun n u D=>?_,by rw[cN,iO,J,P];omega,fun i I=>?_⟩
 ·obtain⟨v,j,rfl⟩:=oR D;have d:=(TT.1 j).1;have p:=h.at_ d;rw[t]at A;have f:oC v.Yd=false:=by
   split at m
   ·unfold lK at m;split at m <;> exact m
   ·exact m
  have E:=h.now j f;rw[h.ix s d];have Q:=h.le n v j;by_cases y:a<H.length
  ·have:=h.at_ y;have C:aw b n<=aw b a:=UO (ge r (by rw[<-h.len];exact y));rw[h.ix s y,tF C (by omega),<-h.til n v j f a r (by omega)];split
   ·unfold lK;split
    ·next c=>rw[c.1];simp;omega
    ·rfl
   ·rfl
  ·have O:a=H.length:=(by omega);subst O;rw[N,K n d,<-E];by_cases c:w<=n
   ·rw[TJ ⟨c,d⟩,Ve (show ¬n<w by omega),Bool.and_false];unfold lK;by_cases z:v.til=0
    ·rw[TJ ⟨z,f⟩]
     show(H.length==0||decide (H.length<H.length))=false
     rw[Ui.2 (show H.length≠0 by omega),Ve (Nat.lt_irrefl _)];rfl
    ·rw[TH (fun q=>z q.1)];have:(v.til==0)=false:=Ui.2 z;rw[this,Ve (show ¬H.length<v.til by omega)];rfl
   ·rw[TH (fun q=>c q.1),U6 (show n<w by omega),Bool.and_true,Ve (show ¬H.length<v.til by omega),Vr]
 ·obtain⟨v,j,rfl⟩:=oR D;have:=h.le n v j;rw[t];split
  ·unfold lK;split
   ·exact TI _
   ·exact this
  ·exact this
 ·obtain⟨F,G⟩:=h.rbl i (by rw[TO];exact Nat.lt_succ_of_lt I);have L:(x++[w]).getD i 0=x.getD i 0:=by rw[TG,TG,Uf I]
  rw[L]at F G;rw[t,cN];refine⟨F,fun n d g=>?_⟩;have p:=h.at_ d;rw[h.ix s d]at g ⊢;rw[K n d,Uc]at g;rw[rt (by omega)];exact G n d g.1
def Px(k:Int):Bool:=decide (2<=k/\k<=6)
structure gB(T:List Tk)(d:Db):Prop where
 hel:ov (aa T) d.Ya d.rbl
 ct:∀(n:Nat) (s:St),d.Ya[n]?=some s->fm (aq (aa T) (aw (aa T) n)).k.toList s.Yd/\s.Ye=bP T (aq (aa T) (aw (aa T) n))/\s.XM=bu T (aq (aa T) (aw (aa T) n)).h/\dU T (aq (aa T) (aw (aa T) n)).h
 lab:d.Ye=if Px d.Yd=true then tS T (fA T) else⟨#[]⟩
section
variable {T:List Tk} {t:Tk} {d d':Db}
theorem t8:kF (v++[L]) v.length=(((L.k.toList == [36,100])||(L.k.toList == [36,102])||(L.k.toList == [36,101])||(L.k.toList == [36,97])||(L.k.toList == [36,112]))):=by
 unfold kF;rw[lx]
theorem gB.old(R:gB T d)(q:iZ T (aa T) (aa T).length){M:List Sm}{b:St}(o:w<d.Ya.length)(p:d.Ya[w]?=some k)(e:aw (aa T++M) w=aw (aa T) w)(g:b.Yd=k.Yd)(i:b.Ye=k.Ye)(j:b.XM=k.XM) :
  fm (aq (aa T++M) (aw (aa T++M) w)).k.toList b.Yd/\b.Ye=bP (T++[t]) (aq (aa T++M) (aw (aa T++M) w))/\b.XM=bu (T++[t]) (aq (aa T++M) (aw (aa T++M) w)).h/\dU (T++[t]) (aq (aa T++M) (aw (aa T++M) w)).h:=by
 obtain⟨l,m,n,f⟩:=R.ct w k p;have c:=R.hel.at_ o;rw[e,jJ _ _ _ c,g,i,j];refine⟨l,?_,?_,Lv T [t] _ f⟩
 ·rw[m];unfold bP;rw[fY T [t] _ (q.a _ c)]
 ·rw[n,qz T [t] _ f]
theorem gB.XR(R:gB T d)(k:iZ T (aa T) (aa T).length)(i:cd t.s=false)(c:d'.Ya=d.Ya)(f:d'.rbl=d.rbl)(g:d'.Ye=if Px d'.Yd=true then tS (T++[t]) (fA T) else⟨#[]⟩):gB (T++[t]) d':=by
 obtain⟨b,e⟩:=lX (T:=T) (t:=t) i;refine⟨by rw[b,c,f];exact R.hel,fun n s a=>?_,by rw[e];exact g⟩;rw[c]at a;have j:=(TT.1 a).1;rw[b];have:=R.old (t:=t) k (M:=[]) j a (by rw[Uk]) rfl rfl rfl;rw[Uk]at this;exact this
theorem gB.other(R:gB T d)(p:iZ T (aa T) (aa T).length)(s:Sm)(c:aa (T++[t])=aa T++[s])(l:kF (aa T++[s]) (aa T).length=false)(m:∀o,o<=aR o s.k)(j:aR (bA (aa T) (aa T).length) s.k=(d'.rbl.length:Int))(i:d'.rbl=d.rbl∨d'.rbl=d.rbl++[d.Ya.length])(b:d'.Ya=d.Ya)(f:d'.Ye=⟨#[]⟩)(g:d'.Yd=0):gB (T++[t]) d':=by
 refine⟨by rw[c,b];exact R.hel.other s l m d'.rbl j i,fun n u a=>?_,by rw[f,g];rfl⟩;rw[b]at a;have e:=(TT.1 a).1;rw[c];exact R.old p e a (R.hel.ix s e) rfl rfl rfl
theorem gB.Yb(R:gB T d)(z:iZ T (aa T) (aa T).length)(s:Sm)(f:aa (T++[t])=aa T++[s])(g:kF (aa T++[s]) (aa T).length=true)(x:∀o,aR o s.k=o)(u:St)(y:u.til=0)(p:fm s.k.toList u.Yd)(w:u.Ye=bP (T++[t]) s)(q:u.XM=bu (T++[t]) s.h)(r:dU (T++[t]) s.h)(c:d'.Ya=d.Ya++[u])(i:d'.rbl=d.rbl)(j:d'.Ye=⟨#[]⟩)(l:d'.Yd=0):gB (T++[t]) d':=by
 refine⟨by rw[f,c,i];exact R.hel.Yb s g x u y,fun n v a=>?_,by rw[j,l];rfl⟩;rw[c]at a;rw[f];by_cases b:n<d.Ya.length
 ·rw[Uf b]at a;exact R.old z b a (R.hel.ix s b) rfl rfl rfl
 ·have e:n=d.Ya.length:=by
   have:=(TT.1 a).1;rw[TO]at this;have:n<d.Ya.length+1:=this;omega
  subst e;rw[Ua (TI _),UM]at a;cases a
  have m:aw (aa T++[s]) d.Ya.length=(aa T).length:=by
   unfold aw;rw[nB,TJ g,R.hel.len,TG,Ua (TI _),UM];rfl
  rw[m,lx];exact⟨p,w,q,r⟩
theorem gB.pop(R:gB T d)(y:iZ T (aa T) (aa T).length)(s:Sm)(b:aa (T++[t])=aa T++[s])(m:kF (aa T++[s]) (aa T).length=false)(p:∀o,aR o s.k=o-1)(g:d.rbl=x++[w])(a:d'.Ya=kE d.Ya w)(i:d'.rbl=x)(j:d'.Ye=⟨#[]⟩)(l:d'.Yd=0):gB (T++[t]) d':=by
 have h:=R.hel;rw[g]at h;refine⟨by rw[b,a,i];exact h.pop s m p,fun n u e=>?_,by rw[j,l];rfl⟩;rw[a]at e;obtain⟨v,f,r⟩:=oR e;have c:=(TT.1 f).1;have q:u.Yd=v.Yd/\u.Ye=v.Ye/\u.XM=v.XM:=by
  rw[r];split
  ·unfold lK;split <;> exact⟨rfl,rfl,rfl⟩
  ·exact⟨rfl,rfl,rfl⟩
 rw[b];exact R.old y c f (R.hel.ix s c) q.1 q.2.1 q.2.2
end
section
variable {T:List Tk} {t:Tk} {d:Db}
theorem rx(h:dC l=false):cd l=false:=by
 cases a:cd l
 ·rfl
 ·have:=(lz a).1;rw[iQ,h]at this;cases this
theorem fO(h:(l.toList==o)=true)(a:((o == [36,46])||(o == [36,123])||(o == [36,125]))=false):cd l=false:=by
 rw[(jW (dr h)).2.2];exact a
theorem gB.first(R:gB T d)(b:iZ T (aa T) (aa T).length)(A:bA (aa T) (aa T).length=(d.Yf.length:Int))(p:fA T=T.length)(u:d.Yd=0)(a:(ay d t.s).1=0):gB (T++[t]) (ay d t.s).2:=by
 have g:d.Ye=⟨#[]⟩:=by rw[R.lab,u];rfl
 unfold ay at *;by_cases c:(t.s.toList == [36,123])=true
 ·rw[TJ c];obtain⟨k,-⟩:=nz (T:=T) (t:=t) p (by rw[(jW (dr c)).2.2];decide);have i:∀o,aR o t.s=o+1:=fun o=>by rw[sK (dr c)];rfl
  refine R.other b _ k (by rw[t8];simp only;rw[dr c];decide) (fun o=>by show o<=aR o t.s;rw[i];omega) ?_ (TU rfl) rfl g u;show aR _ t.s=_;rw[i,R.hel.dep];simp only[List.length_append,List.length_cons,List.length_nil];omega
 rw[TH c]at a ⊢;by_cases f:(t.s.toList == [36,125])=true
 ·rw[TJ f]at a ⊢;cases r:d.Yf.getLast? with
  | none=>rw[r]at a;cases a
  | some q =>
   simp only;obtain⟨k,-⟩:=nz (T:=T) (t:=t) p (by rw[(jW (dr f)).2.2];decide);have i:∀o,aR o t.s=o-1:=fun o=>by rw[sK (dr f)];rfl
   have j:d.rbl≠[]:=by
    intro e;have:=R.hel.dep;rw[A,e]at this;have:d.Yf=[]:=Us (by simpa using this);rw[this]at r;cases r
   have x:d.rbl=d.rbl.dropLast++[d.rbl.getLast j]:=(Wi j).symm;have y:d.rbl.getLast?=some (d.rbl.getLast j):=VR j;unfold cQ;rw[y];exact R.pop b _ k (by rw[t8];simp only;rw[dr f];decide) (fun o=>i o) x rfl rfl g u
 rw[TH f]at a ⊢;by_cases l:(t.s.toList == [36,99])=true
 ·rw[TJ l]at a ⊢;by_cases w:0<d.Yf.length
  ·rw[TJ w]at a;cases a
  ·rw[TH w];exact R.XR b (fO l (by decide)) rfl rfl g
 rw[TH l]at a ⊢;by_cases m:(t.s.toList == [36,118])=true
 ·rw[TJ m];exact R.XR b (fO m (by decide)) rfl rfl g
 rw[TH m]at a ⊢;by_cases n:(t.s.toList == [36,100])=true
 ·rw[TJ n];exact R.XR b (fO n (by decide)) rfl rfl g
 rw[TH n]at a ⊢;split at a
 ·cases a
 ·next z =>
  rw[TH z];unfold bU at *;cases v:dC t.s
  ·rw[v,TH (by simp)]at a;split at a
   ·cases a
   ·next B =>
    split at a
    ·cases a
    ·next C =>
     rw[TH (by simp),TH B,TH C];exact R.XR b (rx v) rfl rfl (by show t.s=tS (T++[t]) (fA T);rw[p,oo])
  ·rw[v,TJ rfl]at a;cases a
theorem gB.key(R:gB T d)(c:iZ T (aa T) (aa T).length)(k:fA T+1=T.length)(j:d.Yd=6)(a:(aJ d t.s).1=0):gB (T++[t]) (aJ d t.s).2:=by
 have b:d.Ye=tS (T++[t]) (fA T):=by rw[R.lab,j,fY T [t] _ (by omega)];rfl
 unfold aJ at *;split
 ·next h=>exact R.XR c (fO h (by decide)) rfl rfl b
 ·next e =>
  rw[TH e]at a;split
  ·next h=>exact R.XR c (fO h (by decide)) rfl rfl b
  ·next f =>
   rw[TH f]at a;split
   ·next h=>exact R.XR c (fO h (by decide)) rfl rfl b
   ·next g =>
    rw[TH g]at a;split
    ·next h=>exact R.XR c (fO h (by decide)) rfl rfl b
    ·next i=>rw[TH i]at a;cases a
theorem Ds(h:fm o D):((o == [36,100])||(o == [36,102])||(o == [36,101])||(o == [36,97])||(o == [36,112]))=!((D==7)||(D==8)):=by
 (rcases h with ⟨rfl,rfl⟩ | ⟨rfl,rfl⟩ | ⟨rfl,rfl⟩ | ⟨rfl,rfl⟩ | ⟨rfl,rfl⟩ | ⟨rfl,rfl⟩ | ⟨rfl,rfl⟩) <;> decide
theorem Nh(h:fm l.toList D):(aA l||aH l)=Px D:=by
 have e:=jW (k:=l) rfl;rw[e.1,e.2.1];generalize l.toList=a at h
 (rcases h with ⟨rfl,rfl⟩ | ⟨rfl,rfl⟩ | ⟨rfl,rfl⟩ | ⟨rfl,rfl⟩ | ⟨rfl,rfl⟩ | ⟨rfl,rfl⟩ | ⟨rfl,rfl⟩) <;> decide
theorem gB.body(R:gB T d)(r:iZ T (aa T) (aa T).length)(H:ee T (fA T)=(l,w))(B:fA T<w)(A:w<=T.length)(m:fm l.toList d.Yd)(F:eF T w T.length=f)(D:d.XM=f.takeWhile jz)(p:Pl)(b:(aZ d t.s p).1=0):gB (T++[t]) (aZ d t.s p).2:=by
 have y:d.Ye=if Px d.Yd=true then tS (T++[t]) (fA T) else⟨#[]⟩:=by rw[R.lab,fY T [t] _ (by omega)]
 rw[pj m]at *;by_cases n:(t.s.toList == [36,46])=true
 ·rw[TJ n]at *;obtain⟨G,-⟩:=Bz n;obtain⟨v,-⟩:=nV T t;rw[TJ G,oX H B A m]at v;simp only at v;have i:bu (T++[t]) w=d.XM:=by
   unfold bu;rw[UP A,tJ _ t (fun u I=>?_) n,D,<-F,ma];have:=vo T w (by omega) u I;unfold cd at this;simp only[Bool.or_eq_false_iff]at this;exact this.1.1
  have C:dU (T++[t]) w:=⟨T.length,A,by simp,by rw[oo];unfold nW;rw[n];simp⟩;have c:=m.dep.1;have e:kF (aa T++[(⟨fA T,T.length+1,w,l⟩:Sm)]) (aa T).length=!((d.Yd==7)||(d.Yd==8)):=by rw[t8];exact Ds m
  unfold mt at *;split at b
  ·cases b
  ·next E =>
   rw[TH E];split at b
   ·cases b
   ·next k =>
    rw[TH k];simp only;cases a:((d.Yd==7)||(d.Yd==8))
    ·rw[a]at e;simp only[Bool.or_eq_false_iff]at a;have j:(aX d p).Ya=d.Ya++[⟨d.Yd,d.Ye,d.XM,d.XY,p,0⟩]/\(aX d p).rbl=d.rbl:=by
      unfold aX nF nX;rw[a.1,a.2];simp only[Bool.false_eq_true,if_false];split <;> exact⟨rfl,rfl⟩
     refine R.Yb r _ v e (fun o=>c o) ⟨d.Yd,d.Ye,d.XM,d.XY,p,0⟩ rfl m ?_ i.symm C j.1 j.2 rfl rfl;show d.Ye=bP (T++[t]) ⟨fA T,T.length+1,w,l⟩;unfold bP;simp only;rw[Nh m];exact y
    ·rw[a]at e;have j:(aX d p).Ya=d.Ya/\(aX d p).rbl=d.rbl:=by
      unfold aX eD;rw[Uy]at a;split
      ·exact⟨rfl,rfl⟩
      ·next q =>
       rw[TJ (a.resolve_left q)];exact⟨rfl,rfl⟩
     refine R.other r _ v e (fun o=>by show o<=aR o l;rw[c];exact Wo _) ?_ (TZ j.2) j.1 rfl rfl;show aR _ l=_;rw[c,R.hel.dep];show _=((aX d p).rbl.length:Int)
     rw[j.2]
 ·rw[TH n]at *;by_cases z:(t.s.toList == [36,61])=true/\(d.Yd==5)=true/\d.XQ=false
  ·rw[TJ z]at *;unfold cv at *;split at b
   ·cases b
   ·next g=>rw[TH g];exact R.XR r (fO z.1 (by decide)) rfl rfl y
  ·rw[TH z]at *;cases x:dC t.s
   ·rw[x,TH (by simp)]at b;rw[TH (by simp)];split at b
    ·next g=>rw[TJ g];exact R.XR r (rx x) rfl rfl y
    ·next g =>
     rw[TH g];split at b
     ·next k=>rw[TJ k];exact R.XR r (rx x) rfl rfl y
     ·next k=>simp only at b;rw[b]at k;exact absurd rfl k
   ·rw[x,TJ rfl]at b;cases b
theorem gB.step(o:uK T d)(n:tA T (aa T) d)(q:∀j,j<T.length->aY T (aa T) j=0)(R:gB T d)(v:T.length<=100000)(p:Pl)(c:(aZ d t.s p).1=0):gB (T++[t]) (aZ d t.s p).2:=by
 obtain⟨k,-⟩:=BG T v q;rcases o with ⟨g,a,b,f,m⟩ | ⟨g,a,b,f,m,y,x⟩ | ⟨A,l,B,a,i,w,u,r,f,b,z,m,C⟩
 ·have e:aZ d t.s p=ay d t.s:=by unfold aZ;rw[a];rfl
  rw[e]at c ⊢;exact R.first k (C0 n) g a c
 ·have e:aZ d t.s p=aJ d t.s:=by unfold aZ;rw[a];rfl
  rw[e]at c ⊢;exact R.key k g a c
 ·exact R.body k a i w u r b p c
end
theorem cm(h:fm o D):(D==3)=(o == [36,101])/\(D==2)=(o == [36,102])/\(D==1)=(o == [36,100])/\oC D=((o == [36,97])||(o == [36,112])):=by
 (rcases h with ⟨rfl,rfl⟩ | ⟨rfl,rfl⟩ | ⟨rfl,rfl⟩ | ⟨rfl,rfl⟩ | ⟨rfl,rfl⟩ | ⟨rfl,rfl⟩ | ⟨rfl,rfl⟩) <;> decide
theorem uo:lF v=(List.range (lF v).length).map (aw v):=by
 apply VH;intro n;rw[Uo];by_cases h:n<(lF v).length
 ·rw[Vu h,TF h];show _=some (aw v n);unfold aw;rw[TG,TF h];rfl
 ·rw[UA (by omega),UA (by rw[Vm];omega)];rfl
theorem rG{m:Nat}(d:m=(lF b).length){p q:Nat->Bool}(f:∀j,j<b.length->p j=true->kF b j=true)(g:∀n,n<m->q n=p (aw b n)):((List.range m).filter q).map (aw b)=(List.range b.length).filter p:=by
 have a:(List.range b.length).filter p=(lF b).filter p:=by
  unfold lF;rw[Xl];apply gj;intro j c;cases h:p j
  ·rfl
  ·rw[f j c h];rfl
 rw[a,uo b,<-d,List.filter_map];congr 1;apply gj;intro n e;exact g n e
theorem pC{n:Nat}(h:w<=n)(p:Nat->Bool):(List.range n).filter (fun j=>decide (j<w)&&p j)=(List.range w).filter p:=by
 have e:List.range n=List.range w++(List.range (n-w)).map (w + ·):=by
  have:=@List.range_add w (n-w);rwa [show w+(n-w)=n by omega]at this
 have b:(List.range w).filter (fun j=>decide (j<w)&&p j)=(List.range w).filter p:=gj (fun j a=>by rw[U6 a,Vk]);have c:((List.range (n-w)).map (w + ·)).filter (fun j=>decide (j<w)&&p j)=[]:=by
  rw[Wf];intro j a;obtain⟨i,-,rfl⟩:=UT.1 a;rw[Ve (by omega)];simp
 rw[e,UV,b,c,Uk]
section
variable {T:List Tk} {d:Db}
theorem gB.held(R:gB T d)(a:d.Ya[w]?=some k)(b:oC k.Yd=false)(c:i<d.Ya.length):fD d.Ya w i=(decide (aw (aa T) w<aw (aa T) i)&&aP (aa T) (aw (aa T) w) (aw (aa T) i)):=by
 have g:=(TT.1 a).1;have f:=R.hel.len;unfold fD;rw[a];simp only;by_cases h:w<i
 ·rw[U6 h,U6 (ge h (by omega)),R.hel.til w k a b i h (by omega)]
 ·have:¬aw (aa T) w<aw (aa T) i:=by
   by_cases e:w=i
   ·rw[e];omega
   ·have:=ge (S:=aa T) (n:=i) (a:=w) (by omega) (by omega);omega
  rw[Ve h,Ve this];rfl
theorem gB.get(R:gB T d)(a:w<d.Ya.length):∃s,d.Ya[w]?=some s/\fm (aq (aa T) (aw (aa T) w)).k.toList s.Yd/\s.Ye=bP T (aq (aa T) (aw (aa T) w))/\s.XM=bu T (aq (aa T) (aw (aa T) w)).h:=by
 refine⟨d.Ya[w],TF a,?_⟩;obtain⟨b,c,e,-⟩:=R.ct w _ (TF a);exact⟨b,c,e⟩
theorem gB.symsAt(R:gB T d)(a:w<d.Ya.length):symsAt d.Ya w=bu T (aq (aa T) (aw (aa T) w)).h:=by
 obtain⟨s,b,-,-,h⟩:=R.get a;unfold Go.Proofs.YtnbhnocdhbcbcaaGreat.symsAt;rw[b];exact h
theorem gB.syms(R:gB T d)(b:w<d.Ya.length):ip d.Ya w=uI T (aa T) (aw (aa T) w):=by
 have l:=R.hel.len;have a:=R.hel.at_ b;have f:((List.range d.Ya.length).filter (Bh d.Ya w)).map (aw (aa T))=(List.range (aw (aa T) w)).filter (yV (aa T) (aw (aa T) w)):=by
  rw[<-pC (UO a)];refine rG l (fun j m h=>?_) (fun n c=>?_)
  ·unfold yV at h;simp only[Bool.and_eq_true]at h;unfold kF;rw[h.2.1];simp
  ·obtain⟨s,i,g,-,-⟩:=R.get c;unfold Bh yV;rw[i];simp only;rw[(cm g).1];cases e:((aq (aa T) (aw (aa T) n)).k.toList == [36,101])
   ·simp
   ·have a:oC s.Yd=false:=by
     rw[(cm g).2.2.2,cI e,cI e];decide
    rw[R.held i a b,Vk,Vk]
 unfold ip fz uI kM;rw[R.symsAt b,<-f,List.flatMap_map];congr 1;apply dR;intro n c;exact R.symsAt (TY.1 (Ux.1 c).1)
def Sa(T:List Tk)(S:List Sm):Prop:=∀j,j<S.length->((aq S j).k.toList == [36,102])=true->2<=(bu T (aq S j).h).length/\(bu T (aq S j).h).getD 1 ⟨#[]⟩=tS T ((aq S j).h+1)
theorem gB.hyps(R:gB T d)(F:Sa T (aa T))(e:w<d.Ya.length):(aO d.Ya w).map (aw (aa T))=a8 T (aa T) (aw (aa T) w):=by
 have t:=R.hel.len;have b:=R.hel.at_ e;unfold aO eM a8;rw[R.syms e,<-pC (UO b)];refine rG t (fun j x h=>?_) (fun n i=>?_)
 ·unfold t7 at h;simp only[Bool.and_eq_true,Bool.or_eq_true]at h;unfold kF;rcases h.2.2 with h | h
  ·rw[h];simp
  ·rw[h.1];simp
 ·obtain⟨s,f,r,-,g⟩:=R.get i;have q:=R.hel.at_ i;obtain⟨v,l,y,m⟩:=cm r;unfold nK t7 qL;rw[f];simp only;rw[l];cases a:((aq (aa T) (aw (aa T) n)).k.toList == [36,102])
  ·rw[TH (by simp),v];cases c:((aq (aa T) (aw (aa T) n)).k.toList == [36,101])
   ·simp
   ·have b:oC s.Yd=false:=(by rw[m,cI c,cI c];decide);rw[R.held f b e];simp
  ·have b:oC s.Yd=false:=(by rw[m,cI a,cI a];decide);have c:((aq (aa T) (aw (aa T) n)).k.toList == [36,101])=false:=(by rw[cI a];decide);obtain⟨o,p⟩:=F _ q a;have u:aN s=tS T ((aq (aa T) (aw (aa T) n)).h+1):=by
    unfold aN;rw[TJ ⟨by rw[l];exact a,by rw[g];exact o⟩,g,p]
   rw[TJ rfl,R.held f b e,u,c,U0,Vk,WH]
end
theorem Jx(L:List Tk):∀i,i<(lJ L).length->(lJ L)[i]?=L[i]?.map (·.s):=by
 induction L with
 | nil=>intro i a;cases a
 | cons t L b =>
  intro i a;unfold lJ at a ⊢;split
  ·next h=>rw[TJ h]at a;cases a
  ·next h =>
   rw[TH h]at a;cases i with
   | zero=>rfl
   | succ i=>exact b i (by simpa using a)
theorem qA(T:List Tk)(h i:Nat)(a:i<(bu T h).length):(bu T h).getD i ⟨#[]⟩=tS T (h+i):=by
 unfold bu at *;have:=Jx (T.drop h) i a;unfold tS;rw[TG,this,VP,TG];cases T[h+i]? <;> rfl
section
variable {T:List Tk} {t:Tk} {d d':Db}
def vr(s:St):Xs:=s.XM.getD 1 ⟨#[]⟩
structure rW(d:Db):Prop where
 fl:∀(n:Nat) (s:St),d.Ya[n]?=some s->s.Yd=2->2<=s.XM.length
 ds:∀(n m:Nat) (s u:St),d.Ya[n]?=some s->d.Ya[m]?=some u->s.Yd=2->u.Yd=2->n<m->(s.til=0∨m<s.til)->((vr s).toList==(vr u).toList)=false
 op:d.Yd=2->2<=d.XM.length->aK d.XZ (d.XM.getD 1 ⟨#[]⟩)=false
theorem gB.XZ(R:gB T d)(E:tA T (aa T) d)(F:rW d)(b:d.Ya[w]?=some k)(c:k.Yd=2)(f:k.til=0):aK d.XZ (vr k)=true:=by
 have m:=(TT.1 b).1;obtain⟨j,-,e,-⟩:=R.ct w k b;have g:oC k.Yd=false:=by rw[c];rfl
 have a:=R.hel.now b g;rw[f]at a;have i:=R.hel.at_ m;have n:((aq (aa T) (aw (aa T) w)).k.toList == [36,102])=true:=by rw[<-(cm j).2.1,c];rfl
 rw[E.typ.l,oV,UG];refine⟨aw (aa T) w,Ux.2 ⟨TY.2 i,a.symm⟩,?_⟩;unfold In;rw[TJ n,sO];have o:=F.fl w k b c;unfold vr;rw[e,qA T _ 1 (by rw[<-e];omega)];simp
theorem rW.same(F:rW d)(b:d'.Ya=d.Ya)(e:d'.Yd=2->2<=d'.XM.length->aK d'.XZ (d'.XM.getD 1 ⟨#[]⟩)=false):rW d' :=
 ⟨fun n s a=>by rw[b]at a;exact F.fl n s a,fun n m s u a c=>by rw[b]at a c;exact F.ds n m s u a c,e⟩
theorem rW.ended(F:rW d)(b:Nat)(o:d'.Ya=kE d.Ya b)(p:d'.Yd=0):rW d':=by
 have q:∀(n:Nat) (s:St),d'.Ya[n]?=some s->∃v,d.Ya[n]?=some v/\s.Yd=v.Yd/\s.XM=v.XM/\(s.til=v.til∨(v.til=0/\s.til=d.Ya.length)):=fun n s a=>by
  rw[o]at a;obtain⟨v,f,z⟩:=oR a;refine⟨v,f,?_⟩;rw[z];split
  ·unfold lK;split
   ·next c=>exact⟨rfl,rfl,TU ⟨c.1,rfl⟩⟩
   ·exact⟨rfl,rfl,TZ rfl⟩
  ·exact⟨rfl,rfl,TZ rfl⟩
 refine⟨fun n s a j=>?_,fun n m s u a y j k l w=>?_,fun h=>by rw[p]at h;cases h⟩
 ·obtain⟨v,f,g,i,-⟩:=q n s a;rw[i];exact F.fl n v f (by rw[<-g];exact j)
 ·obtain⟨v,f,g,i,e⟩:=q n s a;obtain⟨x,A,r,t,-⟩:=q m u y;unfold vr;rw[i,t];refine F.ds n m v x f A (by rw[<-g];exact j) (by rw[<-r];exact k) l ?_;rcases e with e | ⟨e,-⟩
  ·rw[<-e];exact w
  ·exact TZ e
theorem rW.more(R:gB T d)(E:tA T (aa T) d)(F:rW d)(u:St)(l:u.Yd=2->2<=u.XM.length/\aK d.XZ (vr u)=false)(o:d'.Ya=d.Ya++[u])(p:d'.Yd=0):rW d':=by
 have q:∀(n:Nat) (s:St),d'.Ya[n]?=some s->(n<d.Ya.length/\d.Ya[n]?=some s)∨(n=d.Ya.length/\s=u):=fun n s a=>by
  rw[o]at a;by_cases g:n<d.Ya.length
  ·rw[Uf g]at a;exact TZ ⟨g,a⟩
  ·have:=(TT.1 a).1;rw[TO]at this;have:n<d.Ya.length+1:=this;rw[Ua (by omega),show n-d.Ya.length=0 by omega]at a;cases a
   exact TU ⟨by omega,rfl⟩
 refine⟨fun n s a b=>?_,fun n m s x a A b c k v=>?_,fun h=>by rw[p]at h;cases h⟩
 ·rcases q n s a with ⟨-,h⟩ | ⟨-,rfl⟩
  ·exact F.fl n s h b
  ·exact(l b).1
 ·rcases q m x A with ⟨y,t⟩ | ⟨y,rfl⟩
  ·rcases q n s a with ⟨-,f⟩ | ⟨g,-⟩
   ·exact F.ds n m s x f t b c k v
   ·omega
  ·rcases q n s a with ⟨-,f⟩ | ⟨g,-⟩
   ·have w:=R.hel.le n s f;have r:s.til=0:=(by omega);have i:=R.XZ E F f b r;have j:=(l c).2;cases z:((vr s).toList==(vr x).toList)
    ·rfl
    ·have e:(vr s).toList=(vr x).toList:=(by simpa using z);unfold aK at i j;rw[e]at i;rw[i]at j;cases j
   ·omega
theorem rW.step(y:uK T d)(x:tA T (aa T) d)(R:gB T d)(F:rW d)(p:Pl)(f:(aZ d t.s p).1=0):rW (aZ d t.s p).2:=by
 rcases y with ⟨E,i,j,m,w⟩ | ⟨E,i,j,m,w,I,H⟩ | ⟨K,v,B,i,G,O,D,N,m,j,J,w,M⟩
 ·have e:aZ d t.s p=ay d t.s:=by unfold aZ;rw[i];rfl
  rw[e]at f ⊢;unfold ay bU cQ at *;have k:∀d':Db,d'.Ya=d.Ya->d'.Yd≠2->rW d':=fun d' l n=>F.same l (fun h=>absurd h n)
  repeat' split
  all_goals first
   | exact F
   | exact F.ended _ rfl i
   | exact k _ rfl (by rw[show _=_ from i];decide)
   | exact k _ rfl (by simp only;decide)
   | exact k _ rfl (by simp only;rw[i];decide)
   | exact k _ rfl (by show d.Yd≠2;rw[i];decide)
 ·have e:aZ d t.s p=aJ d t.s:=by unfold aZ;rw[i];rfl
  rw[e]at f ⊢;have k:∀d':Db,d'.Ya=d.Ya->d'.XM=d.XM->rW d':=fun d' l n=>F.same l (fun _ h=>by rw[n,j]at h;simp at h);unfold aJ
  repeat' split
  all_goals exact k _ rfl rfl
 ·rw[pj D]at f ⊢;by_cases u:(t.s.toList == [36,46])=true
  ·rw[TJ u]at f ⊢;unfold mt at *;split at f
   ·cases f
   ·next r =>
    rw[TH r];split at f
    ·cases f
    ·next A =>
     rw[TH A];simp only;cases c:((d.Yd==7)||(d.Yd==8))
     ·simp only[Bool.or_eq_false_iff]at c;have o:(aX d p).Ya=d.Ya++[⟨d.Yd,d.Ye,d.XM,d.XY,p,0⟩]:=by
       unfold aX nF nX;rw[c.1,c.2];simp only[Bool.false_eq_true,if_false];split <;> rfl
      refine rW.more R x F ⟨d.Yd,d.Ye,d.XM,d.XY,p,0⟩ (fun b=>?_) o rfl;replace b:d.Yd=2:=b;have a:2<=d.XM.length:=by
       unfold mP at r;rw[TJ (TU (by rw[b];rfl))]at r;omega
      exact⟨a,F.op b a⟩
     ·have o:(aX d p).Ya=d.Ya:=by
       unfold aX eD;rw[Uy]at c;split
       ·rfl
       ·next q=>rw[TJ (c.resolve_left q)]
      exact F.same o (fun h=>by cases h)
  ·rw[TH u]at f ⊢;split
   ·unfold cv;split <;> exact F.same rfl F.op
   ·split
    ·exact F
    ·split
     ·exact F.same rfl F.op
     ·split
      ·next C =>
       refine F.same rfl (fun b a=>?_);replace b:d.Yd=2:=b;replace a:2<=(d.XM++[t.s]).length:=a;rw[TO]at a;replace a:2<=d.XM.length+1:=a;have g:bi d t.s=0:=by simpa using C
       unfold bi at g;rw[b,TH (by decide),TH (by decide),TH (by decide),TH (by omega),TJ (by rfl)]at g;unfold gi at g;split at g
       ·cases g
       ·next L =>
        split at g
        ·cases g
        ·split at g
         ·cases g
         ·next z =>
          show aK d.XZ ((d.XM++[t.s]).getD 1 ⟨#[]⟩)=false;have l:(d.XM++[t.s]).getD 1 ⟨#[]⟩=t.s:=by
           rw[TG,Ua (by omega),show 1-d.XM.length=0 by omega];rfl
          rw[l];simpa using z
      ·exact F
theorem gB.flo(R:gB T d)(F:rW d):Sa T (aa T):=by
 intro j i c;have a:j∈lF (aa T):=Ux.2 ⟨TY.2 i,by unfold kF;rw[c];simp⟩;rw[uo]at a;obtain⟨n,b,rfl⟩:=UT.1 a;have b:n<d.Ya.length:=by rw[R.hel.len];exact TY.1 b
 obtain⟨s,k,f,-,g⟩:=R.get b;have l:s.Yd=2:=by
  have:=(cm f).2.1;rw[c]at this;simpa using this
 have e:=F.fl n s k l;rw[g]at e;exact⟨e,qA T _ 1 (by omega)⟩
end
end Go.Proofs.YtnbhnocdhbcbcaaGreat

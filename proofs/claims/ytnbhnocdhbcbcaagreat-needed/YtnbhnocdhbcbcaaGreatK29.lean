import Derived.Deep.RegionHeld3
import Derived.Deep.RegionLaw
import Derived.Deep.CutRange
import Derived.Test.YtnbhnocdhbcbcaaGreatK26
import Derived.Test.YtnbhnocdhbcbcaaGreatK27
namespace Go.Proofs.YtnbhnocdhbcbcaaGreat
open Go.RowKit Tryz
open Value IntKind Ending
set_option maxHeartbeats 0
variable{ys:Nat->Bool}{w S o y7:Nat}{N:List Tk}{y5:List ip}{y9:List St}{y6:Nat->Hd}{H D:World}{y2:Xv}{i:Fs}{I:Option Nat}{L z3:Hd}{ya:Int}{z0 z1:Xs}{d:Nat×Nat->It}{y0:Nat×Nat}{x1 yt:eQ}{yu:List Value}{y1:Program}{yv:Array Oper}{z4:Oper}{y3:Act}{yy:Exit->Act->World->Prop}(M:Nat)(yd:Fs)(c u:Xs)(y:Fs)(z2:Hd)(y4:Nat)(p:List Tk)(s:List Sm)(b:Nat)(z6:Option Nat)(zt:Xs)(k:List ip)(t:Xu)(T:Nat)(yz yf yg yr:Value)(x:World)(g:Nat×Nat->It)
def QC(RS:List ip)(lab:Xs)(a:Nat):Bool:=(bne (dV RS a).XE 0)&&((dV RS a).XU.toList==lab.toList)
def Jk(RS:List ip)(lab:Xs):Option Nat:=(List.range RS.length).find? (QC RS lab)
theorem Fg(c:S<w)(a:∀i,i<S->ys i=false)(h:ys S=true):(List.range w).find? ys=some S:=by
 rw[WD];refine⟨h,S,by rw[U7];exact c,by rw[Wo],fun j b=>?_⟩;rw[Wo,a j b];rfl
theorem MR(a:∀i,i<w->ys i=false):(List.range w).find? ys=none:=by
 rw[UD];intro i b;rw[a i (TF.1 b)];simp
theorem Mg(a:x.heap[b]?=some (.cells #[yz,bool false,yf,yg,yr] 85)) :
  Calls prog 62 #[pointer (some ⟨b,0,none⟩),string zt] x fun e c=>e=returned (tuple #[int i64 0,int i64 7])/\c=x:=by
 obtain⟨-,d,-⟩:=oc a;clear a;go_enter func62,ntmps62;go_wp2;exact Ty (v:=tuple #[int i64 0,int i64 7]) (by simp[results,results62,go_sem]) rfl ⟨rfl,rfl⟩
def OJ(RS:List ip)(lab:Xs)(w:World)(e:Ending)(w':World):Prop:=e=returned (tuple #[int i64 ((Jk RS lab).getD 0:Nat),int i64 (if(Jk RS lab).isSome=true then 0 else 8)])/\w'=w
set_option maxRecDepth 100000
theorem Mf(v:x.heap[b]?=some (.cells #[yf,bool true,yg,yr,slice t k.length T] 85))(s:dh x t 6 ld k)(J:k.length<=100000) :
  Calls prog 62 #[pointer (some ⟨b,0,none⟩),string zt] x fun e F=>OJ k zt x e F:=by
 obtain⟨-,O,-,-,P⟩:=oc v;have w:=(show Xr (dh x t 6 ld k) from s);clear v s;go_enter func62,ntmps62;go_wp2
 go_loopg [6] k.length (fun g i wr=>∃a:Nat,a<=k.length/\g=k.length-a/\i=int i64 a/\Xr (∀i,i<a->QC k zt i=false)/\x=wr)
 ·exact⟨0,by omega,by omega,rfl,(fun i h=>by omega),rfl⟩
 obtain⟨a,I,H,rfl,f,rfl⟩:=hrel;rcases kn a k.length with ⟨c,B⟩ | ⟨c,-⟩
 ·have q:k[a]?=some (dV k a):=by unfold dV;rw[Tn,Tm c];rfl
  obtain⟨G,rfl,z,m⟩:=w.o a _ q;have p:=m 0 _ rfl;have y:=m 1 _ rfl;rw[Vd]at p;have d:Xr (QC k zt a=((bne (dV k a).XE 0)&&((dV k a).XU.toList==zt.toList))):=rfl;clear m q;generalize dV k a=r at *;obtain⟨D,E,N,L,M,K⟩:=r;simp only at d p y;cases n:(E != 0)
  ·have j:Xr (∀i,i<a+1->QC k zt i=false):=fun i A=>by
    by_cases e:i=a
    ·rw[e,d.o,n];rfl
    ·exact f.o i (by omega)
   go_wp2;go_roundg (k.length-(a+1))
   ·exact⟨a+1,by omega,rfl,by go_num,j,rfl⟩
   omega
  ·cases u:(D.toList==zt.toList)
   ·have j:Xr (∀i,i<a+1->QC k zt i=false):=fun i A=>by
     by_cases e:i=a
     ·rw[e,d.o,n,u];rfl
     ·exact f.o i (by omega)
    go_wp2;go_roundg (k.length-(a+1))
    ·exact⟨a+1,by omega,rfl,by go_num,j,rfl⟩
    omega
   ·have l:Xr (Jk k zt=some a):=Fg c f.o (by rw[d.o,n,u];rfl);go_wp2;exact Ty (v:=tuple #[int i64 a,int i64 0]) (by simp[results,results62,go_sem]) rfl ⟨by rw[l.o];rfl,rfl⟩
 ·have e:a=k.length:=by omega
  subst e;have C:¬(k.length:Int)<k.length:=by omega
  have l:Xr (Jk k zt=none):=MR f.o;go_wp2;exact Ty (v:=tuple #[int i64 0,int i64 8]) (by simp[results,results62,go_sem]) rfl ⟨by rw[l.o];rfl,rfl⟩
structure SL(T:List Tk)(S:List Sm)(RS:List ip):Prop where
 len:RS.length=S.length
 yes:∀a,a<S.length->aA (aq S a).k=true->(bne (dV RS a).XE 0)=true/\(dV RS a).XU=bR T (aq S a)
 no:∀a,a<S.length->aA (aq S a).k=false->(bne (dV RS a).XE 0)=false
theorem gy.find{d:Db}(R:gy N d)(E:SL N (aa N) y5)(b:Xs):Jk y5 b=(lh d.XP b).map (aw (aa N)):=by
 have c:((List.range d.XP.length).filter (oB d.XP b)).map (aw (aa N))=(List.range (aa N).length).filter (QC y5 b):=by
  refine rE R.hel.len (fun j o h=>?_) (fun n f=>?_)
  ·unfold QC at h;simp only[Bool.and_eq_true]at h;cases a:aA (aq (aa N) j).k
   ·rw[E.no j o a]at h;cases h.1
   ·unfold aA at a;simp only[Bool.or_eq_true]at a;unfold kE;rcases a with a | a <;> rw[a] <;> simp
  ·obtain⟨s,q,m,p,-⟩:=R.get f;have e:=R.hel.at_ f;unfold oB QC;rw[q];simp only;have g:=(cm m).2.2.2;cases a:aA (aq (aa N) (aw (aa N) n)).k
   ·rw[E.no _ e a];unfold aA at a;rw[g,a];simp
   ·obtain⟨i,l⟩:=E.yes _ e a;rw[i,l];unfold aA at a;rw[g,a,p];simp
 unfold Jk lh;rw[E.len,<-List.head?_filter,<-c,List.head?_map,List.head?_filter]
theorem GJ(P:List di)(a:Xs)(t:Tk):∀(f k:Nat) (M:List Xt),(bne (nY p s T P a t f k M).XE 0)=true/\(nY p s T P a t f k M).XU=a:=by
 intro f
 induction f with
 | zero =>
  intro k M;unfold nY tp
  repeat' split
  all_goals exact⟨rfl,rfl⟩
 | succ f b =>
  intro k M;unfold nY
  repeat' split
  all_goals first
   | exact⟨rfl,rfl⟩
   | exact b _ _
theorem Cj(a:jO)(t:Tk):(bne (lz p s T a t).XE 0)=true/\(lz p s T a t).XU=bR p (aq s T):=by
 unfold lz;split
 ·exact⟨rfl,rfl⟩
 ·split
  ·exact⟨rfl,rfl⟩
  ·exact GJ p s T _ _ t _ _ _
theorem Ap:(aA (aq s T).k=true->(bne (mI p s (Ao p s) T).XE 0)=true/\(mI p s (Ao p s) T).XU=bR p (aq s T))/\(aA (aq s T).k=false->(bne (mI p s (Ao p s) T).XE 0)=false):=by
 unfold mI aA;cases a:Nc s T
 ·cases b:mx s T
  ·unfold Nc at a;unfold mx at b;rw[a,b];exact⟨(fun h=>by cases h),fun _=>rfl⟩
  ·unfold mx at b;rw[b,Wv];refine⟨fun _=>?_,fun h=>by cases h⟩;exact Cj p s T _ _
 ·unfold Nc at a;rw[a,Vn];exact⟨fun _=>⟨rfl,rfl⟩,fun h=>by cases h⟩
theorem oI.tell{S:List Sm}{i:List (jO×Hd)}(h:oI S i ((List.range S.length).map (mI N S (Ao N S))) y5 S.length):SL N S y5:=by
 have o:y5.length=S.length:=by rw[h.len,TR,U7]
 have d:∀a,a<S.length->dV ((List.range S.length).map (mI N S (Ao N S))) a=mI N S (Ao N S) a:=fun a b=>by
  unfold dV;rw[Tn,T0,Vf b];rfl
 have f:∀a,a<S.length->(dV y5 a).XU=(mI N S (Ao N S) a).XU/\(bne (dV y5 a).XE 0)=(bne (mI N S (Ao N S) a).XE 0):=fun a b=>by
  by_cases c:(dV ((List.range S.length).map (mI N S (Ao N S))) a).XE=4/\pX S i ((List.range S.length).map (mI N S (Ao N S))) a
  ·have e:=h.yes a b c.1 c.2;have j:=c.1;rw[d a b]at e j;rw[e];exact⟨rfl,by simp only;rw[j];rfl⟩
  ·rw[h.no a b c,d a b];exact⟨rfl,rfl⟩
 refine⟨o,fun a b g=>?_,fun a b g=>?_⟩
 ·obtain⟨k,l⟩:=f a b;obtain⟨m,n⟩:=(Ap N S a).1 g;exact⟨by rw[l];exact m,by rw[k];exact n⟩
 ·rw[(f a b).2];exact(Ap N S a).2 g
def wf(RS:List ip):List ip:=RS.filter (fun r=>bne r.XE 0)
theorem N3(r:ip):∀u∈ld r,u.oneCell'=true:=by
 intro u a;simp only[ld,List.mem_cons,List.not_mem_nil,or_false]at a;rcases a with rfl | rfl | rfl | rfl | rfl | rfl <;> rfl
set_option maxRecDepth 512
theorem Ld(a:x.heap[T]?=some (.cells #[yz,bool false,yf,yg,yr] 85)) :
  Calls prog 23 #[pointer (some ⟨T,0,none⟩)] x fun e b=>e=returned (slice none 0 0)/\b=x:=by
 obtain⟨-,c,-⟩:=oc a;clear a;go_enter func23,ntmps23;go_wp2;go_ret;exact⟨rfl,rfl⟩
def ON(RS:List ip)(w:World)(e:Ending)(w':World):Prop:=∃h',e=returned (slice h'.ao (wf RS).length h'.cap)/\io w w' h' (gF (wf RS))
set_option maxRecDepth 100000
theorem Lc(F:x.heap[b]?=some (.cells #[yf,bool true,yg,yr,slice t k.length T] 85))(O:dh x t 6 ld k)(hl:k.length<=100000) :
  Calls prog 23 #[pointer (some ⟨b,0,none⟩)] x fun e w'=>ON k x e w':=by
 obtain⟨-,v1,-⟩:=oc F;have S:Xr _:=F;have R:=(show Xr (dh x t 6 ld k) from O);have B:Xr (io x x ⟨none,0⟩ (gF (wf (k.take 0)))):=⟨Tw _ _ _ _,(by intro a P;cases P),ae.refl _ _⟩;obtain⟨iR,G,s,u,v⟩:=TY Iv;clear F O;go_enter func23,ntmps23;go_wp2;clear v1
 go_loopg [3,4] k.length (fun g o i wr=>∃(a:Nat) (d:Hd) (L:List ip),a<=k.length/\g=k.length-a/\o=slice d.ao L.length d.cap/\i=int i64 a/\L.length<=a/\Xr (L=wf (k.take a))/\Xr (io x wr d (gF L)))
 ·exact⟨0,⟨none,0⟩,[],by omega,rfl,rfl,rfl,Tp _,rfl,B⟩
 obtain⟨a,d,L,P,hg,rfl,rfl,ac,w,m⟩:=hrel;have C:Xr _:=(m.o.XQ.get S.o (by simp));obtain⟨-,-,-,-,v4⟩:=oc C.o;rcases kn a k.length with ⟨j,af⟩ | ⟨j,-⟩
 ·obtain⟨g0,rfl,ad,f⟩:=(dh.XD R.o m.o.XQ) a _ (Tm j);have N:=f 0 _ rfl;have U:=f 1 _ rfl;have V:=f 2 _ rfl;have W:=f 3 _ rfl;have X:=f 4 _ rfl;have Y:=f 5 _ rfl;rw[Vd]at N;have c:Xr (wf (k.take (a+1))=L++(if(bne k[a].XE 0)=true then [k[a]] else [])):=by
   show _=_;rw[w.o];unfold wf;rw[Wr,Tm j,UH];congr 1;cases h:(bne k[a].XE 0) <;> simp[h]
  clear f;generalize k[a]=r at *;obtain⟨J,y,M,I,K,H⟩:=r;simp only at c N U V W X Y;cases Q:(y != 0)
  ·have z:Xr (L=wf (k.take (a+1))):=(by show _=_;rw[c.o,Q,To (by simp),TV]);go_wp2;go_roundg (k.length-(a+1))
   ·exact⟨a+1,d,L,by omega,rfl,rfl,by go_num,by omega,z,m⟩
   omega
  ·have z:Xr (L++[⟨J,y,M,I,K,H⟩]=wf (k.take (a+1))):=(by show _=_;rw[c.o,Q,Tq rfl]);have D:=m.o.X6;have E:Xr ((gF L).n<=900000000):=(by show L.length<=_;omega);have p:Xr ((gF L).n=L.length):=rfl;go_wp2_with (at_builtin;refine cC wr rfl (.tmp 28) (.tmp 36) 54 rfl iR (agg #[string ⟨#[]⟩,int i64 0,int i64 0,string ⟨#[]⟩,int i64 0,int i64 0]) 64 d (gF L) (ld ⟨J,y,M,I,K,H⟩) underlying54 G s u v rfl (show 0<6 by omega) (by rw[p.o];simp[Act.eval]) D E.o (by omega) (by simp[Act.eval]) rfl (N3 _) ?_;intro Z w5 l q;rw[gF,iz]at l;have A:Xr _:=m.o.XN q l;clear l q);go_roundg (k.length-(a+1))
   ·exact⟨a+1,Z,L++[(⟨J,y,M,I,K,H⟩:ip)],by omega,rfl,by rw[p.o,Tu];rfl,by go_num,by rw[Tu];show _+1<=_;omega,z,A⟩
   omega
 ·have e:a=k.length:=by omega
  subst e;have ag:¬(k.length:Int)<k.length:=by omega
  rw[UN]at w;go_wp2;go_ret;exact⟨d,by rw[<-w.o];rfl,by rw[<-w.o];exact m.o⟩
def vl(bo:Option Nat):Xu:=bo.map (fun b=>⟨b,0,none⟩)
def iU(lo hi:Nat):Xv:=List.range' lo (hi-lo)
theorem oi:o∈iU w S ↔ w<=o/\o<S:=by
 unfold iU;rw[List.mem_range'_1];omega
def R6(l:List St)(H:Nat->Hd)(q:Nat):Prop:=(H 6).XR=some q∨∃i s,l[i]?=some s/\((H (10+2*i)).XR=some q∨(H (11+2*i)).XR=some q)
theorem R6.inH(h:R6 y9 y6 w):ij y6 w:=by
 rcases h with h | ⟨i,s,-,h | h⟩
 ·exact⟨6,h⟩
 ·exact⟨_,h⟩
 ·exact⟨_,h⟩
theorem ir.ltU(h:ir H y9 y6)(u:R6 y9 y6 w):w<H.heap.size:=by
 rcases u with u | ⟨i,s,a,u | u⟩
 ·exact h.X6.lt u
 ·exact(h.syms i s a).lt u
 ·exact(h.prfs i s a).lt u
theorem ir.keptU(h:ir H y9 y6)(k:ae y2 H D)(c:∀x,R6 y9 y6 x->x∉y2):ir D y9 y6 :=
 ⟨h.X6.XI (fun x a=>k.block x (h.X6.lt a) (c x (TG a))),fun i s b=>(h.syms i s b).XI (fun x a=>k.block x ((h.syms i s b).lt a) (c x (TA ⟨i,s,b,TG a⟩))),fun i s b=>(h.prfs i s b).XI (fun x a=>k.block x ((h.prfs i s b).lt a) (c x (TA ⟨i,s,b,TA a⟩)))⟩
def SD(w:World)(x:Nat)(fs:Fs)(lo hi:Nat):Option Nat->Prop
 | none=>kB w x fs
 | some k=>(k<fs.length/\((gi fs k).1==0)=true)/\∃H g,nE w x fs (bE fs k).2.2.XP H g/\(lo<=g/\g<hi)/\∀q,R6 (bE fs k).2.2.XP H q->lo<=q/\q<hi
structure eu(w:World)(x:Nat)(fs:Fs)(lo hi:Nat)(st:Option Nat):Prop where
 z:hi<=w.heap.size
 s:SD w x fs lo hi st
def Sz(w:World)(v:Nat)(fs:Fs)(h:Hd)(lo hi:Nat):Option Nat->Prop
 | none=>∃p2 p3 p4,gB w v fs h false p2 p3 p4
 | some k=>zg w v fs h (cM fs k).1 lo hi
structure dL(w:World)(v:Nat)(fs:Fs)(h:Hd)(lo hi:Nat)(st:Option Nat):Prop where
 z:hi<=w.heap.size
 s:Sz w v fs h lo hi st
theorem eu.anyS(a:eu H w i S o I):lO H w i:=by
 have:=a.s;cases I with
 | none=>exact kB.anyR this
 | some k=>obtain⟨-,b,g,h,-⟩:=this;exact h.anyR
theorem dL.anyS(a:dL H w i L S o I):∃b c d e,gB H w i L b c d e:=by
 have:=a.s;cases I with
 | none=>exact⟨false,this⟩
 | some k=>exact⟨true,zg.rvAt this⟩
theorem eu.XQ(a:eu H w i S o I)(k:ae y2 H D)(c:∀q,q∈w :: iU S o->q∉y2):eu D w i S o I:=by
 refine⟨TE a.z k.size,?_⟩;have l:=c w Ud;have e:∀q,S<=q/\q<o->q∉y2:=fun q b=>c q (Uc _ (oi.2 b));have:=a.s;cases I with
 | none=>exact kB.XQ this k l
 | some j =>
  obtain⟨r,m,g,h,d,f⟩:=this;obtain⟨n,u,p,t⟩:=h.ver;exact⟨r,m,g,⟨⟨n,u,p,bO.XQ t k l⟩,h.XP.keptU k (fun q b=>e q (f q b)),k.get h.arr (e g d),h.far⟩,d,f⟩
theorem dL.XQ(a:dL H w i L S o I)(k:ae y2 H D)(b:∀q,q∈w :: (L.XR.toList++iU S o)->q∉y2):dL D w i L S o I:=by
 refine⟨TE a.z k.size,?_⟩;have d:=b w Ud;have c:∀q,L.XR=some q->q∉y2:=fun q g=>b q (Uc _ (UC _ (by rw[g];simp)));have l:∀q,S<=q->q<o->q∉y2:=fun q e f=>b q (Uc _ (UU _ (oi.2 ⟨e,f⟩)));have:=a.s;cases I with
 | none=>obtain⟨m,n,p,r⟩:=this;exact⟨m,n,p,r.keptS k d c⟩
 | some j=>exact zg.XQ this k d c l
theorem dL.XD(a:dL H w i L S o I)(k:ae [] H D):dL D w i L S o I:=a.XQ k (fun _ _ b=>by cases b)
theorem eu.XD(a:eu H w i S o I)(k:ae [] H D):eu D w i S o I:=a.XQ k (fun _ _ b=>by cases b)
theorem eu.lt(a:eu H w i S o I)(q:Nat)(b:q∈w :: iU S o):q<H.heap.size:=by
 rcases Ua.1 b with e | e
 ·rw[e];exact a.anyS.lt
 ·have:=oi.1 e;have:=a.z;omega
theorem dL.lt{h:Hd}(a:dL H w i h S o I)(q:Nat)(b:q∈w :: (h.XR.toList++iU S o)):q<H.heap.size:=by
 obtain⟨c,f,g,j,r⟩:=a.anyS;rcases Ua.1 b with e | e
 ·rw[e];exact aj r.d
 ·rcases Uf.1 e with e | e
  ·exact r.X6.lt (aQ e)
  ·have:=oi.1 e;have:=a.z;omega
theorem eu.same(a:eu H w i S o I):∃b f l m,jq H w i b f l m/\∀c,jq c w i b f l m->ae [w] H c->eu c w i S o I:=by
 have h:=a.s;cases I with
 | none=>exact⟨_,_,_,_,h,fun c d k=>⟨TE a.z k.size,d⟩⟩
 | some j =>
  obtain⟨u,n,g,r,v,y⟩:=h;obtain⟨p,A,t,d⟩:=r.ver;refine⟨_,_,_,_,d,fun c e k=>⟨TE a.z k.size,u,n,g,⟨⟨p,A,t,e⟩,r.XP.keptU k (fun q x=>by simp;exact r.far.2 q x.inH),k.get r.arr (by simp;exact Ne.symm r.far.1),r.far⟩,v,y⟩⟩
def mX(c:Int)(st:Option Nat):Option Nat:=if c=0 then none else st
theorem rj(h:ya=0):mX ya I=none:=Tq h
theorem tF(h:ya≠0):mX ya I=I:=To h
theorem IJ(h:(fI i z0 z1).1≠0):(fI i z0 z1).2=i:=by
 unfold fI at h ⊢;split
 ·rfl
 ·next c =>
  rw[To c]at h;split
  ·next a=>rw[Tq a]at h;exact absurd rfl h
  ·next a =>
   rw[To a]at h;split
   ·rfl
   ·next b=>rw[To b]at h;exact absurd rfl h
theorem PZ(h:eu x M y y4 b z6)(i:c.size<=1073741824)(g:u.size<=4294967296) :
  Calls prog 15 #[pointer (some ⟨M,0,none⟩),string c,string u] x fun e d=>e=returned (int i64 (fI y c u).1)/\eu d M (fI y c u).2 y4 b (mX (fI y c u).1 z6)/\ae [M] x d:=by
 by_cases a:(fI y c u).1=0
 ·refine(Oz M c u y x h.anyS i g).mono (fun e d q=>⟨q.1,?_,q.2.2.2⟩);rw[rj a];exact⟨TE h.z q.2.2.2.size,q.2.2.1 a⟩
 ·obtain⟨f,m,n,o,l,k⟩:=h.same;refine(Qw M c u y f m n o x l i g a).mono (fun e d q=>⟨q.1,?_,q.2.2⟩);have j:=q.2.1;rw[IJ a]at j ⊢;rw[tF a];exact k d j q.2.2
theorem DP(g f:Nat)(i:Option Nat)(w:World)(h:eu w M yd g f i)(j:lC w t y)(c:mm y) :
  Calls prog 31 #[pointer (some ⟨M,0,none⟩),slice t y.length T] w fun e b=>e=returned (int i64 (dS y))/\eu b M (jW yd y) g f (mX (dS y) i)/\ae [M] w b:=by
 obtain⟨d,o,p,r,l,k⟩:=h.same;refine(LE M yd y d o p r t T w l j c).mono (fun e b q=>⟨q.1,?_,q.2.2⟩);obtain⟨m,n⟩:=q.2.1;by_cases a:dS y=0
 ·rw[rj a];exact⟨TE h.z q.2.2.size,m a⟩
 ·have:=n a;rw[qI rfl a]at this ⊢;rw[tF a];exact k b this q.2.2
theorem OZ(a:dL x M y z2 y4 b z6)(n:c.size<=1073741824)(l:u.size<=4294967296) :
  Calls prog 16 #[pointer (some ⟨M,0,none⟩),string c,string u] x fun e j=>e=returned (int i64 (fI y c u).1)/\∃f,dL j M (fI y c u).2 f y4 b (mX (fI y c u).1 z6)/\ae (M :: z2.XR.toList) x j/\∀q,f.XR=some q->z2.XR=some q∨x.heap.size<=q:=by
 obtain⟨o,p,s,t,r⟩:=a.anyS;refine(Ky M y z2 o p s t c u x r n l).mono (fun e j q=>⟨q.1,?_⟩);by_cases d:(fI y c u).1=0
 ·obtain⟨f,v,g⟩:=q.2.1 d;rw[rj d];refine⟨f,⟨TE a.z g.XQ.size,_,_,_,v⟩,g.XQ,fun q i=>?_⟩;rcases g.XR with e | ⟨w,e,m⟩
  ·exact TG (by rw[<-e];exact i)
  ·rw[e]at i;cases i;exact TA m
 ·have k:=q.2.2 d;rw[tF d,IJ d];exact⟨z2,a.XD k,k.mono (by simp),fun _ e=>TG e⟩
theorem CS(a:dL x M yd z2 y4 b z6)(m:ob x t T y)(o:t=none->y.length=0/\T=0)(n:∀l,t=some l->∃g,l=⟨g,0,none⟩)(f:∀j,j<y.length->(aG y j).size<=1073741824/\(ak y j).size<=1073741824) :
  Calls prog 32 #[pointer (some ⟨M,0,none⟩),slice t y.length T] x fun e i=>e=returned (int i64 (dS y))/\∃d,dL i M (jW yd y) d y4 b (mX (dS y) z6)/\ae (M :: z2.XR.toList) x i/\∀q,d.XR=some q->z2.XR=some q∨x.heap.size<=q:=by
 obtain⟨s,u,v,w,r⟩:=a.anyS;refine(FB M yd y z2 s u v w t T x r m o n f).mono (fun e i q=>⟨q.1,?_⟩);by_cases c:dS y=0
 ·obtain⟨d,A,g,p⟩:=q.2.1 c;rw[rj c];exact⟨d,⟨TE a.z g.size,_,_,_,A⟩,g,p⟩
 ·have k:=q.2.2 c;rw[tF c,qI rfl c];exact⟨z2,a.XD k,k.mono (by simp),fun _ e=>TG e⟩
theorem CZ(a:y.length<=4)(b:∀j,j<y.length->(ak y j).size<=1024)(d:T<y.length)(h:((gi y T).1==0)=true):gi y T=cY:=by
 unfold gi at h;split at h
 ·next c =>
  have e:(MQ (zN (cM y T).1 (aa (cM y T).1))).1=(zN (cM y T).1 (aa (cM y T).1)).X3:=rfl;rw[e,c]at h;cases h
 ·next c =>
  exact(xy y T a b d (by cases q:((zN (cM y T).1 (aa (cM y T).1)).X3==0);exact absurd q c;rfl) h).1
def oK(z lo hi lo1 hi1:Nat):Prop:=(lo1=lo/\hi1=hi)∨z<=lo1
theorem oK.mem{z lo hi:Nat}(h:oK z lo hi w S)(a:o∈iU w S):o∈iU lo hi∨z<=o:=by
 rcases h with ⟨rfl,rfl⟩ | h
 ·exact TG a
 ·exact TA (TE h (oi.1 a).1)
def SV(w:World)(x:Nat)(fs:Fs)(lo hi:Nat)(f:pt)(q:Int)(st:Option Nat)(e:Ending)(w':World):Prop :=
 e=returned (tuple #[iu f,int i64 q])/\(∃lo1 hi1,eu w' x fs lo1 hi1 st/\oK w.heap.size lo hi lo1 hi1)/\ae [x] w w'
def SU(w:World)(m:Nat)(fs:Fs)(h:Hd)(lo hi:Nat)(f:pt)(q:Int)(st:Option Nat)(e:Ending)(w':World):Prop :=
 e=returned (tuple #[iu f,int i64 q])/\(∃lo1 hi1,dL w' m fs h lo1 hi1 st/\oK w.heap.size lo hi lo1 hi1)/\ae [m] w w'
theorem Mv(a:Fs)(h:Hd)(D C o m:Nat)(F:Option Nat)(n:Xs)(w:World)(I:eu w b a D C F)(x:a.length<=4)(p:∀j,j<a.length->(ak a j).size<=1024) :
  ∃(f:pt) (q:Int) (B:Option Nat),Calls prog 37 #[pointer (some ⟨b,0,none⟩),string n] w (fun e i=>SV w b a D C f q B e i) /\
   ∀c,dL c T a h o m F->Calls prog 38 #[pointer (some ⟨T,0,none⟩),string n] c (fun e i=>SU c T a h o m f q B e i):=by
 rcases qB n a with u | ⟨k,v,u⟩
 ·obtain⟨O,u0,u1,u2,X,W⟩:=I.same;refine⟨cY,5,F,(ED b a n O u0 u1 u2 w X (by rw[u];decide)).mono (fun e i q=>⟨q.1,⟨D,C,W i q.2.1 q.2.2,TG ⟨rfl,rfl⟩⟩,q.2.2⟩),fun c d=>?_⟩;obtain⟨J,K,L,M,r⟩:=d.anyS;exact(zA T a h J K L M n c r (by rw[u];decide)).mono (fun e i q=>⟨q.1,⟨o,m,d.XD q.2,TG ⟨rfl,rfl⟩⟩,q.2.mono (by simp)⟩)
 ·obtain⟨P,-⟩:=xx a k x p v;have A:=GL b k a n w I.anyS u v p;have y:∀c,dL c T a h o m F->Calls prog 38 #[pointer (some ⟨T,0,none⟩),string n] c fun e i=>SE a k T h (gi a k) (if((gi a k).1==0)=true then 0 else 6) c e i:=fun c d=>by
   obtain⟨J,K,L,M,r⟩:=d.anyS;exact Cl T k a h J K L M n c r u v p
  cases t:((gi a k).1==0)
  ·refine⟨gi a k,6,none,A.mono (fun e i q=>?_),fun c d=>(y c d).mono (fun e i q=>?_)⟩
   ·obtain⟨s,d⟩:=q;rw[P,t,To (by simp)]at s;exact⟨s.1,⟨D,C,⟨TE I.z d.size,s.2⟩,TG ⟨rfl,rfl⟩⟩,d⟩
   ·rw[t,To (by simp)]at q;obtain⟨N,⟨-,Z⟩,E⟩:=q;exact⟨N,⟨o,m,⟨TE d.z E.size,Z (by decide)⟩,TG ⟨rfl,rfl⟩⟩,E⟩
  ·refine⟨gi a k,0,some k,A.mono (fun e i q=>?_),fun c d=>(y c d).mono (fun e i q=>?_)⟩
   ·obtain⟨s,d⟩:=q;rw[P,t,Tq rfl]at s;obtain⟨s,H,g,G,S,U⟩:=s;exact⟨by rw[s,CZ a k x p v t],⟨w.heap.size,i.heap.size,⟨Tp _,⟨v,t⟩,H,g,G,⟨S,aj G.arr⟩,fun R Q=>⟨U R Q.inH,G.XP.ltU Q⟩⟩,TA (Tp _)⟩,d⟩
   ·rw[t,Tq rfl]at q;obtain⟨N,⟨Y,-⟩,E⟩:=q;obtain⟨l,V,r⟩:=Y rfl;exact⟨N,⟨l,i.heap.size,⟨Tp _,r⟩,TA V⟩,E⟩
structure qn(w:World)(bo:Option Nat)(L:Xt):Prop where
 nil:bo=none ↔ L=[]
 XR:∀b,bo=some b->w.heap[b]?=some (.cells (dK L).toArray 9)
theorem In(b:i.length<=4)(a:∀j,j<i.length->(ak i j).size<=1024)(k:w<i.length)(f:((gi i w).1==0)=true):rL (cM i w).1 (bE i w).2.2/\(cM i w).1.length<=10000/\fn (cM i w).1:=by
 obtain⟨c,g⟩:=xx i w b a k;obtain⟨d,e⟩:=g (by rw[c];exact f);exact⟨d,e,C7 i w (tU a)⟩
theorem IF(L:Xt)(a:L=[]):io x x ⟨none,0⟩ (aE L):=by subst a;exact⟨Tw _ _ _ _,(by intro k b;cases b),ae.refl _ _⟩
def SN(w:World)(e:Ending)(w':World):Prop:=∃(L:List ip) (h':Hd),e=returned (slice h'.ao L.length h'.cap)/\io w w' h' (gF L)/\L.length<=100000
theorem MD(w:dL x M y z2 y4 b z6)(i:∀k,z6=some k->k<y.length/\((gi y k).1==0)=true)(g:y.length<=4)(l:∀j,j<y.length->(ak y j).size<=1024) :
  Calls prog 23 #[pointer (some ⟨M,0,none⟩)] x fun e m=>SN x e m:=by
 have p:=w.s;cases z6 with
 | none =>
  obtain⟨z,A,B,r⟩:=p;refine(Ld M _ z A B x r.d).mono (fun e m q=>⟨[],⟨none,0⟩,q.1,?_,by simp⟩);rw[q.2];exact⟨Tw _ _ _ _,(by intro k c;cases c),ae.refl _ _⟩
 | some k =>
  obtain⟨c,u⟩:=i k rfl;obtain⟨G,O,N⟩:=In g l c u;obtain⟨I,H,K,F,J,E,L,n,o,r⟩:=p;have v:=r.XX.tell;have P:(aa (cM y k).1).length<=(cM y k).1.length:=pJ _ _;have a:n.length<=100000:=by rw[v.len];omega
  refine(Lc M n o.ao o.cap _ _ _ x r.rv.d (aB.srcG (f:=ld) r.s2 (fun _=>rfl)) a).mono (fun e m q=>?_);obtain⟨t,C,D⟩:=q;exact⟨_,t,C,D,TE (U0 _ _) a⟩
def sP(b t:Nat)(c:List Value):It where
 B:=[b]
 P w:=w.heap[b]?=some (.cells c.toArray t)
 lt w h q hq:=by rw[TH.1 hq];exact aj h
 ok S w w' h k hb:=k.get h (hb b (by simp))
def b8(h:Hd)(r:eQ):It where
 B:=h.XR.toList
 P w:=aB w h r
 lt w o q hq:=o.lt (aQ hq)
 ok S w w' o k hb:=o.XI (fun q hq=>k.block q (o.lt hq) (hb q (by rw[hq];simp)))
def Rc(x:Nat)(fs:Fs)(lo hi:Nat)(st:Option Nat):It where
 B:=x :: iU lo hi
 P w:=eu w x fs lo hi st
 lt _ a q hq:=a.lt q hq
 ok _ _ _ a k hb:=a.XQ k hb
def Rb(v:Nat)(h:Hd)(fs:Fs)(lo hi:Nat)(st:Option Nat):It where
 B:=v :: (h.XR.toList++iU lo hi)
 P w:=dL w v fs h lo hi st
 lt _ a q hq:=a.lt q hq
 ok _ _ _ a k hb:=a.XQ k hb
def AJ(fs:Fs):Prop:=∀j,j<fs.length->(ak fs j).size<=1024
structure jo(w:World)(bo:Option Nat)(fs:Fs):Prop where
 nil:bo=none->fs=[]
 XR:∀b,bo=some b->w.heap[b]?=some (.cells (rS fs).toArray 68)
def vU(bo:Option Nat)(fs:Fs):It where
 B:=bo.toList
 P w:=jo w bo fs
 lt w a q hq:=by
  cases bo with
  | none=>cases hq
  | some b=>rw[WZ,TH]at hq;rw[hq];exact aj (a.XR b rfl)
 ok S w w' a k hb:=⟨a.nil,fun b e=>k.get (a.XR b e) (hb b (by rw[e];simp))⟩
def By(x:Option Nat×Fs):Value:=slice (vl x.1) x.2.length x.2.length
def iV(l:List (Option Nat×Fs)):eQ:=⟨33,1,l.length,l.map By⟩
def P0(x:Nat):Value:=pointer (some ⟨x,0,none⟩)
def l5(t:Nat)(l:Xv):eQ:=⟨t,1,l.length,l.map P0⟩
structure Mc where
 hx:Hd
 hm:Hd
 hr:Hd
 hl:Hd
 hc:Hd
 V:List (Nat×Nat×Fs)
 reg:Fs
 L:List (Option Nat×Option Nat×Fs)
 a:Int
 n:Int
 e:Int
 u:Int
 s:Xs
 p:Int
 q:Int
 f:Xs
 i:Int
 j:Int
 qv:Value
 tv:Value
def Mc.cells(M:Mc):List Value:=[slice M.hx.ao M.V.length M.hx.cap,slice M.hm.ao M.V.length M.hm.cap,slice M.hr.ao M.reg.length M.hr.cap,slice M.hl.ao M.L.length M.hl.cap,slice M.hc.ao M.L.length M.hc.cap,int i64 M.a,int i64 M.n,int i64 M.e,int i64 M.u,string M.s,int i64 M.p,int i64 M.q,string M.f,int i64 M.i,int i64 M.j,M.qv,M.tv]
structure cD(w:World)(b:Nat)(I:Nat×Nat->It)(M:Mc)(N:Nat):Prop where
 sep:ou w I
 w0:I (0,0)=sP b 42 M.cells
 x:I (1,0)=b8 M.hx (l5 46 (M.V.map (·.1)))
 m:I (2,0)=b8 M.hm (l5 47 (M.V.map (·.2.1)))
 r:I (3,0)=b8 M.hr (cW M.reg)
 ls:I (4,0)=b8 M.hl (iV (M.L.map (fun l=>(l.1,l.2.2))))
 lw:I (5,0)=b8 M.hc (iV (M.L.map (fun l=>(l.2.1,l.2.2))))
 v:∀i x m fs,M.V[i]?=some (x,m,fs)->(∃st h lo hi lo2 hi2,I (6,i)=Rc x fs lo hi st/\I (7,i)=Rb m h fs lo2 hi2 st)/\AJ fs
 l:∀k a c fs,M.L[k]?=some (a,c,fs)->I (8,k)=vU a fs/\I (9,k)=vU c fs/\mm fs/\fs.length<=N
 fit:mm M.reg
 len:M.V.length<=N/\M.reg.length<=N/\M.L.length<=N
 rng:ri M.a/\ri M.n/\ri M.e
structure sB(I:Nat×Nat->It)(M:Mc)(I':Nat×Nat->It)(M':Mc):Prop where
 k:∀j i,10<=j->I' (j,i)=I (j,i)
 q:M'.qv=M.qv
 t:M'.tv=M.tv
theorem sB.refl(M:Mc):sB g M g M:=⟨fun _ _ _=>rfl,rfl,rfl⟩
theorem pS{a:It}(b:w<10)(c:10<=o):ed d (w,S) a (o,y7)=d (o,y7):=Tj _ _ (bm (by omega))
theorem cD.XD{M:Mc}(h:cD H w d M S)(k:ae [] H D):cD D w d M S:={ h with sep:=h.sep.XD k }
theorem cD.more{M:Mc}(h:cD H w d M S):cD H w d M (S+1) :=
 { h with l:=fun k a c i e=>by obtain⟨b,f,g,j⟩:=h.l k a c i e;exact⟨b,f,g,by omega⟩,len:=by obtain⟨b,f,g⟩:=h.len;exact⟨by omega,by omega,by omega⟩ }
theorem cD.XR{M:Mc}(h:cD H w d M S):H.heap[w]?=some (.cells M.cells.toArray 42):=by
 have:=h.sep.all (0,0);rw[h.w0]at this;exact this
theorem cD.ownX{M:Mc}(h:cD H w d M S):aB H M.hx (l5 46 (M.V.map (·.1))):=by have:=h.sep.all (1,0);rw[h.x]at this;exact this
theorem cD.ownM{M:Mc}(h:cD H w d M S):aB H M.hm (l5 47 (M.V.map (·.2.1))):=by have:=h.sep.all (2,0);rw[h.m]at this;exact this
theorem cD.ownR{M:Mc}(h:cD H w d M S):aB H M.hr (cW M.reg):=by have:=h.sep.all (3,0);rw[h.r]at this;exact this
theorem cD.ownL{M:Mc}(h:cD H w d M S):aB H M.hl (iV (M.L.map (fun l=>(l.1,l.2.2)))):=by have:=h.sep.all (4,0);rw[h.ls]at this;exact this
theorem cD.ownC{M:Mc}(h:cD H w d M S):aB H M.hc (iV (M.L.map (fun l=>(l.2.1,l.2.2)))):=by have:=h.sep.all (5,0);rw[h.lw]at this;exact this
theorem ou.grow(s:ou H d)(e:d y0=b8 L x1)(g:bq H D L z3)(o:aB D z3 yt):ou D (ed d y0 (b8 z3 yt)):=by
 refine s.put y0 _ (by rw[e];exact g.XQ) o (fun q a=>?_);have a:=aQ a;rcases g.XR with b | ⟨f,b,c⟩
 ·left;rw[e];show q∈L.XR.toList;rw[<-b,a];simp
 ·right;rw[b]at a;cases a;exact c
theorem ou.turn{a:List Value}(s:ou H d)(e:d y0=sP w S yu)(g:ae [w] H D)(o:D.heap[w]?=some (.cells a.toArray S)):ou D (ed d y0 (sP w S a)) :=
 s.put y0 _ (by rw[e];exact g) o (fun q b=>by rw[e];exact TG b)
def jg(b:Nat)(I:Nat×Nat->It)(M:Mc)(N:Nat)(r:Bool)(e:Ending)(w':World):Prop:=e=returned (bool r)/\∃I' M',cD w' b I' M' (N+1)/\sB I M I' M'
theorem cD.turn0{M M':Mc}(h:cD H w d M S)(e:(M'.hx=M.hx/\M'.hm=M.hm/\M'.hr=M.hr/\M'.hl=M.hl/\M'.hc=M.hc)/\M'.V=M.V/\M'.reg=M.reg/\M'.L=M.L)(k:ae [w] H D)(o:D.heap[w]?=some (.cells M'.cells.toArray 42))(A:ri M'.a/\ri M'.n/\ri M'.e):cD D w (ed d (0,0) (sP w 42 M'.cells)) M' S:=by
 obtain⟨⟨p,s,t,u,y⟩,c,g,f⟩:=e;have q:∀a i,a≠0->ed d (0,0) (sP w 42 M'.cells) (a,i)=d (a,i):=fun a i z=>Tj _ _ (bm z)
 exact {
  sep:=h.sep.turn h.w0 k o
  w0:=bA _ _ _
  x:=by rw[q 1 0 (by decide),p,c];exact h.x
  m:=by rw[q 2 0 (by decide),s,c];exact h.m
  r:=by rw[q 3 0 (by decide),t,g];exact h.r
  ls:=by rw[q 4 0 (by decide),u,f];exact h.ls
  lw:=by rw[q 5 0 (by decide),y,f];exact h.lw
  v:=fun i x m j b=>by rw[q 6 i (by decide),q 7 i (by decide)];rw[c]at b;exact h.v i x m j b
  l:=fun i x m j b=>by rw[q 8 i (by decide),q 9 i (by decide)];rw[f]at b;exact h.l i x m j b
  fit:=by rw[g];exact h.fit
  len:=by rw[c,g,f];exact h.len
  rng:=A }
theorem cD.boxed{M:Mc}(h:cD H w d M S)(k a c b:Int)(s t:Xs)(W:World)(e:H.alloc (.cells #[int i64 k,int i64 a,int i64 c,int i64 b,string s,string t] 28)=W) :
  cD W w d M S/\W.heap[H.heap.size]?=some (.cells #[int i64 k,int i64 a,int i64 c,int i64 b,string s,string t] 28)/\w<H.heap.size/\ae [] H W:=by
 have f:ae [] H W:=by rw[<-e];exact kr0.alloc _
 exact⟨h.XD f,by rw[<-e];exact Ts _ _,aj h.XR,f⟩
theorem du{a c d:Int}(h:H.heap[w]?=some (.cells #[int i64 ya,int i64 a,int i64 c,int i64 d,string z0,string z1] 28)) :
  H.cell? ⟨w,0,none⟩=some (int i64 ya)/\H.cell? ⟨w,1,none⟩=some (int i64 a)/\H.cell? ⟨w,2,none⟩=some (int i64 c)/\H.cell? ⟨w,3,none⟩=some (int i64 d)/\H.cell? ⟨w,4,none⟩=some (string z0)/\H.cell? ⟨w,5,none⟩=some (string z1)/\w<H.heap.size:=by
 refine⟨?_,?_,?_,?_,?_,?_,aj h⟩ <;> (rw[ah h];rfl)
theorem Rk(M:Mc)(A C D:Int)(s t:Xs)(w:World)(h:cD w b g M T)(l:ri A)(m:ri C)(p:ri D) :
  Calls prog 12 #[pointer (some ⟨b,0,none⟩),agg #[int i64 7,int i64 A,int i64 C,int i64 D,string s,string t]] w fun e u=>jg b g M T true e u:=by
 obtain⟨W,d⟩:=bn (w.alloc (.cells #[int i64 7,int i64 A,int i64 C,int i64 D,string s,string t] 28));obtain⟨c,f,q,-⟩:=h.boxed 7 A C D s t W d.o;obtain⟨B,E,F,G,H,I,J⟩:=du f;have v:W.cell? ⟨b,5,none⟩=some (int i64 M.a):=by rw[ah c.XR];rfl
 have x:W.cell? ⟨b,6,none⟩=some (int i64 M.n):=by rw[ah c.XR];rfl
 have y:W.cell? ⟨b,7,none⟩=some (int i64 M.e):=by rw[ah c.XR];rfl
 have z:=am c.XR;have k:Xr (cD (((W.setCell ⟨b,5,none⟩ (int i64 A)).setCell ⟨b,6,none⟩ (int i64 C)).setCell ⟨b,7,none⟩ (int i64 D)) b _ { M with a:=A,n:=C,e:=D } T) :=
  c.turn0 (M':={ M with a:=A,n:=C,e:=D }) ⟨⟨rfl,rfl,rfl,rfl,rfl⟩,rfl,rfl,rfl⟩ ((((ae.refl [b] _).sl1 _).sl1 _).sl1 _) (by rw[ab (ab (ab c.XR 5 _) 6 _) 7 _];rfl) ⟨l,m,p⟩
 clear h c f;go_enter func12,ntmps12;go_upto_region 1 with fail
 rw[d.o];go_wp2;go_ret;exact⟨rfl,_,_,k.o.more,⟨fun j i r=>pS (by decide) r,rfl,rfl⟩⟩
theorem Px(M:Mc)(A C D:Int)(s t:Xs)(w:World)(h:cD w b g M T) :
  Calls prog 12 #[pointer (some ⟨b,0,none⟩),agg #[int i64 16,int i64 A,int i64 C,int i64 D,string s,string t]] w fun e m=>jg b g M T true e m:=by
 obtain⟨W,c⟩:=bn (w.alloc (.cells #[int i64 16,int i64 A,int i64 C,int i64 D,string s,string t] 28));obtain⟨a,d,k,-⟩:=h.boxed 16 A C D s t W c.o;obtain⟨q,r,v,x,y,z,B⟩:=du d;have p:=am a.XR;have n:W.cell? ⟨b,8,none⟩=some (int i64 M.u):=by rw[ah a.XR];rfl
 have f:Xr (cD (W.setCell ⟨b,8,none⟩ (int i64 A)) b _ { M with u:=A } T) :=
  a.turn0 (M':={ M with u:=A }) ⟨⟨rfl,rfl,rfl,rfl,rfl⟩,rfl,rfl,rfl⟩ ((ae.refl [b] _).sl1 _) (by rw[ab a.XR 8 _];rfl) a.rng
 clear h a d;go_enter func12,ntmps12;go_upto_region 1 with fail
 rw[c.o];go_wp2;go_ret;exact⟨rfl,_,_,f.o.more,⟨fun j i l=>pS (by decide) l,rfl,rfl⟩⟩
theorem Py(M:Mc)(A C D:Int)(s t:Xs)(w:World)(h:cD w b g M T)(k:M.qv=slice none 0 0) :
  Calls prog 12 #[pointer (some ⟨b,0,none⟩),agg #[int i64 17,int i64 A,int i64 C,int i64 D,string s,string t]] w fun e l=>jg b g M T true e l:=by
 obtain⟨W,c⟩:=bn (w.alloc (.cells #[int i64 17,int i64 A,int i64 C,int i64 D,string s,string t] 28));obtain⟨a,d,j,-⟩:=h.boxed 17 A C D s t W c.o;obtain⟨m,n,p,q,r,u,v⟩:=du d;have i:W.cell? ⟨b,15,none⟩=some (slice none 0 0):=by rw[ah a.XR,<-k];rfl
 have f:Xr (cD W b g M T):=a;clear h a d;go_enter func12,ntmps12;go_upto_region 1 with fail
 rw[c.o];go_wp2;go_ret;exact⟨rfl,_,_,f.o.more,sB.refl _ _⟩
theorem lV(M:Mc)(k A C D:Int)(s t:Xs)(w:World)(h:cD w b g M T)(n:(8<=k/\k<=14)∨19<=k) :
  Calls prog 12 #[pointer (some ⟨b,0,none⟩),agg #[int i64 k,int i64 A,int i64 C,int i64 D,string s,string t]] w fun e x=>e=returned (bool false)/\ae [] w x:=by
 obtain⟨W,d⟩:=bn (w.alloc (.cells #[int i64 k,int i64 A,int i64 C,int i64 D,string s,string t] 28));obtain⟨j,f,l,c⟩:=h.boxed k A C D s t W d.o;obtain⟨I,-⟩:=du f;have i:Xr (ae [] w W):=c;have a:∀m:Int,(k=m->False)->(k==m)=false:=fun m p=>TT.2 p;have y:=a 1 (by omega);have z:=a 2 (by omega);have B:=a 3 (by omega);have E:=a 4 (by omega);have F:=a 5 (by omega);have G:=a 6 (by omega);have H:=a 7 (by omega);have q:=a 15 (by omega);have r:=a 16 (by omega);have u:=a 17 (by omega);have v:=a 18 (by omega);clear h j f a n c;go_enter func12,ntmps12;go_upto_region 1 with fail
 rw[d.o];go_wp2;go_ret;exact⟨rfl,i.o⟩
theorem Pw(M:Mc)(A C D:Int)(s t:Xs)(w:World)(h:cD w b g M T) :
  Calls prog 12 #[pointer (some ⟨b,0,none⟩),agg #[int i64 15,int i64 A,int i64 C,int i64 D,string s,string t]] w fun e z=>jg b g M T true e z:=by
 obtain⟨W,c⟩:=bn (w.alloc (.cells #[int i64 15,int i64 A,int i64 C,int i64 D,string s,string t] 28));obtain⟨a,d,x,-⟩:=h.boxed 15 A C D s t W c.o;obtain⟨G,H,I,J,K,L,N⟩:=du d;have F:=am a.XR;have B:W.cell? ⟨b,8,none⟩=some (int i64 M.u):=by rw[ah a.XR];rfl
 have E:W.cell? ⟨b,9,none⟩=some (string M.s):=by rw[ah a.XR];rfl
 have l:W.cell? ⟨b,10,none⟩=some (int i64 M.p):=by rw[ah a.XR];rfl
 have m:W.cell? ⟨b,11,none⟩=some (int i64 M.q):=by rw[ah a.XR];rfl
 have n:W.cell? ⟨b,12,none⟩=some (string M.f):=by rw[ah a.XR];rfl
 have r:W.cell? ⟨b,13,none⟩=some (int i64 M.i):=by rw[ah a.XR];rfl
 have v:W.cell? ⟨b,14,none⟩=some (int i64 M.j):=by rw[ah a.XR];rfl
 have k:Xr (cD (((((((W.setCell ⟨b,9,none⟩ (string s)).setCell ⟨b,10,none⟩ (int i64 A)).setCell ⟨b,11,none⟩ (int i64 C)).setCell ⟨b,12,none⟩ (string t)).setCell ⟨b,13,none⟩ (int i64 D)).setCell ⟨b,14,none⟩ (int i64 M.u)).drew) b _ { M with s:=s,p:=A,q:=C,f:=t,i:=D,j:=M.u } T) :=
  (a.turn0 (M':={ M with s:=s,p:=A,q:=C,f:=t,i:=D,j:=M.u }) ⟨⟨rfl,rfl,rfl,rfl,rfl⟩,rfl,rfl,rfl⟩ ((((((((ae.refl [b] _).sl1 _).sl1 _).sl1 _).sl1 _).sl1 _).sl1 _)) (by rw[ab (ab (ab (ab (ab (ab a.XR 9 _) 10 _) 11 _) 12 _) 13 _) 14 _];rfl) a.rng).XD kr0.drew
 clear h a d;go_enter func12,ntmps12;go_upto_region 1 with fail
 rw[c.o];go_upto_region 38 with fail
 go_region
 all_goals go_wp2
 all_goals go_ret
 all_goals exact⟨rfl,_,_,k.o.more,⟨fun j i y=>pS (by decide) y,rfl,rfl⟩⟩
theorem cD.clear{M:Mc}(h:cD H w d M S)(k:ae [w] H D)(o:D.heap[w]?=some (.cells ({ M with hr:=⟨none,0⟩,reg:=[] }:Mc).cells.toArray 42)):∃f,cD D w f { M with hr:=⟨none,0⟩,reg:=[] } S/\sB d M f { M with hr:=⟨none,0⟩,reg:=[] }:=by
 have u:=h.sep.turn h.w0 k o;have y:=u.put (3,0) (b8 ⟨none,0⟩ (cW [])) ((ae.refl _ D).mono (fun _ t _=>t)) (Tw _ _ _ _) (fun q s=>by cases s);refine⟨ed (ed d (0,0) (sP w 42 ({ M with hr:=⟨none,0⟩,reg:=[] }:Mc).cells)) (3,0) (b8 ⟨none,0⟩ (cW [])),?_,?_⟩
 rotate_left
 ·exact⟨fun j i p=>by(repeat rw[pS (by decide) p]),rfl,rfl⟩
 have q:∀a i,a≠0->a≠3->(ed (ed d (0,0) (sP w 42 ({ M with hr:=⟨none,0⟩,reg:=[] }:Mc).cells)) (3,0) (b8 ⟨none,0⟩ (cW []))) (a,i)=d (a,i):=fun a i g n=>by rw[Tj _ _ (bm n),Tj _ _ (bm g)]
 exact {
  sep:=y
  w0:=by rw[Tj _ _ (bm (by decide))];exact bA _ _ _
  x:=by rw[q 1 0 (by decide) (by decide)];exact h.x
  m:=by rw[q 2 0 (by decide) (by decide)];exact h.m
  r:=bA _ _ _
  ls:=by rw[q 4 0 (by decide) (by decide)];exact h.ls
  lw:=by rw[q 5 0 (by decide) (by decide)];exact h.lw
  v:=fun i x m c e=>by rw[q 6 i (by decide) (by decide),q 7 i (by decide) (by decide)];exact h.v i x m c e
  l:=fun i x m c e=>by rw[q 8 i (by decide) (by decide),q 9 i (by decide) (by decide)];exact h.l i x m c e
  fit:=fun j=>⟨by show(0:Nat)<=_;omega,by show(0:Nat)<=_;omega⟩
  len:=⟨h.len.1,Ub _,h.len.2.2⟩
  rng:=h.rng }
theorem Rg(b N:Nat)(I:Nat×Nat->It)(M:Mc)(A C D:Int)(s t:Xs)(w:World)(h:cD w b I M N) :
  Calls prog 12 #[pointer (some ⟨b,0,none⟩),agg #[int i64 3,int i64 A,int i64 C,int i64 D,string s,string t]] w fun e m=>jg b I M N true e m:=by
 obtain⟨W,f⟩:=bn (w.alloc (.cells #[int i64 3,int i64 A,int i64 C,int i64 D,string s,string t] 28));obtain⟨a,g,k,-⟩:=h.boxed 3 A C D s t W f.o;obtain⟨q,r,u,v,x,y,z⟩:=du g;have p:=am a.XR;have n:W.cell? ⟨b,2,none⟩=some (slice M.hr.ao M.reg.length M.hr.cap):=by rw[ah a.XR];rfl
 have i:Xr (∃c,cD (W.setCell ⟨b,2,none⟩ (slice none 0 0)) b c { M with hr:=⟨none,0⟩,reg:=[] } N/\sB I M c { M with hr:=⟨none,0⟩,reg:=[] }) :=
  a.clear ((ae.refl [b] _).sl1 _) (by rw[ab a.XR 2 _];rfl)
 clear h a g;go_enter func12,ntmps12;go_upto_region 1 with fail
 rw[f.o];go_wp2;go_ret;obtain⟨c,j,d⟩:=i.o;exact⟨rfl,c,_,j.more,d⟩
theorem dx{c:List Oper}(H:z4.guard=none)(s v:Operand)(t:TypeId)(p:z4.op=Op.call { callee:=Callee.builtin Builtin.append,args:=#[s,v],argTypes:=#[t,t] })(i:TypeInfo)(z:Value)(b:Nat)(h:Hd)(r:eQ)(a:List Value)(w:y1.underlying t=some (.slice r.e))(y:y1.info? r.e=some i)(A:i.zero=some z)(B:i.size=r.size)(C:i.bytes=b)(D:z.cells.size=r.size)(E:0<r.size)(L:y3.eval s=slice h.ao r.n h.cap)(d:aB x h r)(Q:r.n<=4294967296)(G:b<=1000)(M:y3.eval v=slice (some ⟨x.heap.size,0,none⟩) 1 1)(R:a.length=r.size)(l:∀u∈a,u.oneCell'=true)(F:∀k g,aB g k ⟨r.e,r.size,r.n+1,r.xs++a⟩->bq x g h k->wpList y1 yv yy c (y3.put z4.dst (slice k.ao (r.n+1) k.cap)) g) :
  wpList y1 yv yy (z4 :: c) y3 (x.alloc (.cells a.toArray r.e)):=by
 have q:ae [] x (x.alloc (.cells a.toArray r.e)):=kr0.alloc _;have J:(x.alloc (.cells a.toArray r.e)).heap[x.heap.size]?=some (.cells a.toArray r.e):=Ts _ _;obtain⟨o,g,f,N,O⟩:=qu (P:=y1) (x.alloc (.cells a.toArray r.e)) t z4.type i z b h r w y A B C D E (d.XD q) (some ⟨x.heap.size,0,none⟩) 1 1 a (by omega) (fun e=>by cases e) (fun P e j u I=>by cases e;rw[bX,ah J];simpa using I) l (by unfold maxLen;omega) (TE (VK (show r.n+1<=4294967297 by omega) G) (by omega));refine wpList_plain H fun K m=>?_;unfold Oper.wp;simp[execOp,p,resolve,invoke,builtin,L,M,f,Result.andThen];exact m _ _ (F o g N ((bq.XD q).trans O))
theorem vB{K:Act->World->Prop}{E:Prop}(H:z4.guard=none)(s q:Operand)(t:TypeId)(o:z4.op=Op.call { callee:=Callee.builtin Builtin.append,args:=#[s,q],argTypes:=#[t,t] })(i:TypeInfo)(z:Value)(b:Nat)(h:Hd)(r:eQ)(a:List Value)(v:y1.underlying t=some (.slice r.e))(w:y1.info? r.e=some i)(y:i.zero=some z)(A:i.size=r.size)(B:i.bytes=b)(C:z.cells.size=r.size)(D:0<r.size)(L:y3.eval s=slice h.ao r.n h.cap)(g:aB x h r)(R:r.n<=4294967296)(G:b<=1000)(N:y3.eval q=slice (some ⟨x.heap.size,0,none⟩) 1 1)(S:a.length=r.size)(m:∀u∈a,u.oneCell'=true)(F:∀d c l,aB l ⟨d,c⟩ ⟨r.e,r.size,r.n+1,r.xs++a⟩->bq x l h ⟨d,c⟩->K (y3.put z4.dst (slice d (r.n+1) c)) l) :
  if Region.wanted z4 (yielded yv y3.tmps)=true then Oper.wp y1 z4 y3 (x.alloc (.cells a.toArray r.e)).drew K yy else E:=by
 have p:ae [] x (x.alloc (.cells a.toArray r.e)).drew:=(kr0.alloc _).drew;have J:(x.alloc (.cells a.toArray r.e)).drew.heap[x.heap.size]?=some (.cells a.toArray r.e):=Ts _ _;obtain⟨f,l,k,O,P⟩:=qu (P:=y1) (x.alloc (.cells a.toArray r.e)).drew t z4.type i z b h r v w y A B C D (g.XD p) (some ⟨x.heap.size,0,none⟩) 1 1 a (by omega) (fun e=>by cases e) (fun Q e j u I=>by cases e;rw[bX,ah J];simpa using I) m (by unfold maxLen;omega) (TE (VK (show r.n+1<=4294967297 by omega) G) (by omega));have M:Region.wanted z4 (yielded yv y3.tmps)=true:=by simp[Region.wanted,H]
 rw[Tq M];unfold Oper.wp;simp[execOp,o,resolve,invoke,builtin,L,N,k,Result.andThen];exact F f.ao f.cap l O ((bq.XD p).trans P)
theorem ou.grown(s:ou H d)(f:d (0,0)=sP w S yu)(i:y0≠(0,0))(e:d y0=b8 L x1)(g:bq H D L z3)(o:aB D z3 yt)(j:Nat)(v:Value) :
  ou (D.setCell ⟨w,j,none⟩ v) (ed (ed d y0 (b8 z3 yt)) (0,0) (sP w S (yu.set j v))):=by
 have c:=s.grow e g o;have a:ed d y0 (b8 z3 yt) (0,0)=sP w S yu:=by rw[Tj _ _ (Ne.symm i)];exact f
 refine c.turn a ((ae.refl [w] _).sl1 _) ?_;have b:=c.all (0,0);rw[a]at b;rw[ab (show D.heap[w]?=some (.cells yu.toArray S) from b) j v,Ut]
theorem KZ(f:Xs×Xs):∀u∈QG f,u.oneCell'=true:=by
 intro u a;simp only[QG,List.mem_cons,List.not_mem_nil,or_false]at a;rcases a with rfl | rfl <;> rfl
theorem Bh(h:mm i)(b:z0.size<=1073741824)(a:z1.size<=1073741824):mm (i++[(z0,z1)]):=by
 intro j;have:=h j;unfold aG ak at *;rw[Tn]at *;by_cases e:j<i.length
 ·rw[TP e];exact this
 ·rw[TI (by omega)];cases c:j-i.length with
  | zero=>exact⟨b,a⟩
  | succ q=>exact⟨by show(0:Nat)<=_;omega,by show(0:Nat)<=_;omega⟩
theorem cD.addR{M:Mc}(h:cD H w d M S)(g:bq H D M.hr L)(o:aB D L (cW (M.reg++[(z0,z1)])))(u:z0.size<=1073741824)(s:z1.size<=1073741824):∃f k,cD (D.setCell ⟨w,2,none⟩ (slice L.ao (M.reg.length+1) L.cap)) w f k (S+1)/\sB d M f k:=by
 have y:=h.sep.grown h.w0 (bm (by decide)) h.r g o 2 (slice L.ao (M.reg.length+1) L.cap);refine⟨ed (ed d (3,0) (b8 L (cW (M.reg++[(z0,z1)])))) (0,0) (sP w 42 (M.cells.set 2 (slice L.ao (M.reg.length+1) L.cap))),{ M with hr:=L,reg:=M.reg++[(z0,z1)] },?_,?_⟩
 rotate_left
 ·exact⟨fun j i t=>by(repeat rw[pS (by decide) t]),rfl,rfl⟩
 have q:∀a i,a≠0->a≠3->(ed (ed d (3,0) (b8 L (cW (M.reg++[(z0,z1)])))) (0,0) (sP w 42 (M.cells.set 2 (slice L.ao (M.reg.length+1) L.cap)))) (a,i)=d (a,i):=fun a i n p=>by rw[Tj _ _ (bm n),Tj _ _ (bm p)]
 have c:=h.more
 exact {
  sep:=y
  w0:=by rw[bA];unfold Mc.cells;rw[Tu];rfl
  x:=by rw[q 1 0 (by decide) (by decide)];exact h.x
  m:=by rw[q 2 0 (by decide) (by decide)];exact h.m
  r:=by rw[Tj _ _ (bm (by decide))];exact bA _ _ _
  ls:=by rw[q 4 0 (by decide) (by decide)];exact h.ls
  lw:=by rw[q 5 0 (by decide) (by decide)];exact h.lw
  v:=fun i x m b e=>by rw[q 6 i (by decide) (by decide),q 7 i (by decide) (by decide)];exact h.v i x m b e
  l:=fun i x m b e=>by rw[q 8 i (by decide) (by decide),q 9 i (by decide) (by decide)];exact c.l i x m b e
  fit:=Bh h.fit u s
  len:=⟨c.len.1,by have:=h.len.2.1;show(M.reg++[(z0,z1)]).length<=_;rw[Tu];show _+1<=_;omega,c.len.2.2⟩
  rng:=h.rng }
theorem Rf(M:Mc)(A C D:Int)(s t:Xs)(w:World)(h:cD w b g M T)(X:T<=1073741824)(L:s.size<=1073741824)(N:t.size<=1073741824) :
  Calls prog 12 #[pointer (some ⟨b,0,none⟩),agg #[int i64 2,int i64 A,int i64 C,int i64 D,string s,string t]] w fun e P=>jg b g M T true e P:=by
 obtain⟨W,x⟩:=bn (w.alloc (.cells #[int i64 2,int i64 A,int i64 C,int i64 D,string s,string t] 28));obtain⟨a,z,J,-⟩:=h.boxed 2 A C D s t W x.o;obtain⟨Y,Z,o2,o3,o4,o5,oz⟩:=du z;obtain⟨O,q,j,k,l⟩:=TY Bn;have R:=aj a.XR;have S:W.cell? ⟨b,2,none⟩=some (slice M.hr.ao M.reg.length M.hr.cap):=by rw[ah a.XR];rfl
 have v:Xr (cD W b g M T):=a;have m:=a.ownR;have p:Xr ((cW M.reg).n<=4294967296):=by show M.reg.length<=_;have:=h.len.2.1;omega
 have d:Xr ((cW M.reg).n=M.reg.length):=rfl;have c:Xr (b∉M.hr.XR.toList):=fun K=>a.sep.far (0,0) (3,0) (bm (by decide)) b (by rw[a.w0];exact TH.2 rfl) (by rw[a.r];exact K);clear h a z;go_enter func12,ntmps12;go_upto_region 1 with fail
 rw[x.o];go_upto_region 9 with fail
 go_region_law (refine vB W rfl (.tmp 51) (.tmp 57) 33 rfl O (agg #[string ⟨#[]⟩,string ⟨#[]⟩]) 32 M.hr (cW M.reg) (QG (s,t)) underlying33 q j k l rfl Xa (by rw[d.o];simp[Act.eval]) m p.o (by omega) (by simp[Act.eval]) rfl (KZ (s,t)) ?_;intro G y Q i f;have u:=f.XQ.get v.o.XR c.o;have V:=am u 2;have U:Q.cell? ⟨b,2,none⟩=some (slice M.hr.ao M.reg.length M.hr.cap):=(by rw[ah u];rfl);have z5:=aj u)
 all_goals
  rw[yw]at i;have B:Xr _:=v.o.addR f i L N;rw[d.o];go_wp2;go_ret;obtain⟨E,F,H,I⟩:=B.o;exact⟨rfl,E,F,H,I⟩
theorem Q8:(prog.info? 46).map (fun i=>(i.zero,i.size,i.bytes))=some (some (pointer none),1,8):=by kernel_rfl
theorem Q7:(prog.info? 47).map (fun i=>(i.zero,i.size,i.bytes))=some (some (pointer none),1,8):=by kernel_rfl
theorem Am(L:Xv)(x:Nat):(⟨(l5 T L).e,(l5 T L).size,(l5 T L).n+1,(l5 T L).xs++[P0 x]⟩:eQ)=l5 T (L++[x]):=by
 simp[l5]
theorem cD.addV{J:Nat×Nat->It}{M:Mc}(h:cD H w d M S)(b:J=ed (ed d (6,M.V.length) (Rc o [] 0 0 none)) (7,M.V.length) (Rb y7 ⟨none,0⟩ [] 0 0 none))(p:ou D (ed (ed (ed (ed J (1,0) (b8 L (l5 46 (M.V.map (·.1)++[o])))) (0,0) (sP w 42 (M.cells.set 0 (slice L.ao (M.V.length+1) L.cap)))) (2,0) (b8 z3 (l5 47 (M.V.map (·.2.1)++[y7])))) (0,0) (sP w 42 ((M.cells.set 0 (slice L.ao (M.V.length+1) L.cap)).set 1 (slice z3.ao (M.V.length+1) z3.cap))))) :
  ∃g k,cD D w g k (S+1)/\sB d M g k:=by
 refine⟨_,{ M with hx:=L,hm:=z3,V:=M.V++[(o,y7,[])] },⟨p,?_,?_,?_,?_,?_,?_,?_,?_,?_,?_,?_⟩,?_⟩
 ·rw[bA];unfold Mc.cells;rw[Tu];rfl
 ·rw[Tj _ _ (bm (by decide)),Tj _ _ (bm (by decide)),Tj _ _ (bm (by decide)),bA,Ug];rfl
 ·rw[Tj _ _ (bm (by decide)),bA,Ug];rfl
 ·subst b;simp only[ed];exact h.r
 ·subst b;simp only[ed];exact h.ls
 ·subst b;simp only[ed];exact h.lw
 ·intro i x m c a;rw[Tj _ _ (bm (by decide)),Tj _ _ (bm (by decide)),Tj _ _ (bm (by decide)),Tj _ _ (bm (by decide)),Tj _ _ (bm (by decide)),Tj _ _ (bm (by decide)),Tj _ _ (bm (by decide)),Tj _ _ (bm (by decide))];replace a:(M.V++[(o,y7,[])])[i]?=some (x,m,c):=a;subst b;by_cases e:i<M.V.length
  ·rw[TP e]at a;rw[Tj _ _ (bm (by decide)),Tj _ _ (vg (by omega)),Tj _ _ (vg (by omega)),Tj _ _ (bm (by decide))];exact h.v i x m c a
  ·have n:i=M.V.length:=by
    have:=(Tz.1 a).1;rw[Tu]at this;have:i<M.V.length+1:=this;omega
   subst n;rw[TI (Tp _),Uy]at a;cases a
   rw[Tj _ _ (bm (by decide)),bA,bA];exact⟨⟨none,⟨none,0⟩,0,0,0,0,rfl,rfl⟩,fun j f=>by cases f⟩
 ·intro i x m c a;subst b;simp only[ed];exact h.more.l i x m c a
 ·exact h.fit
 ·refine⟨?_,h.more.len.2.1,h.more.len.2.2⟩;have:=h.len.1
  show(M.V++[(o,y7,[])]).length<=_
  rw[Tu];show _+1<=_;omega
 ·exact h.rng
 ·subst b;exact⟨fun j i f=>by(repeat rw[pS (by decide) f]),rfl,rfl⟩
theorem Re(M:Mc)(A C D:Int)(s t:Xs)(w:World)(h:cD w b g M T)(hN:T<=1073741824) :
  Calls prog 12 #[pointer (some ⟨b,0,none⟩),agg #[int i64 1,int i64 A,int i64 C,int i64 D,string s,string t]] w fun e w'=>jg b g M T true e w':=by
 obtain⟨W,HW⟩:=bn (w.alloc (.cells #[int i64 1,int i64 A,int i64 C,int i64 D,string s,string t] 28));obtain⟨hM,hB,av,-⟩:=h.boxed 1 A C D s t W HW.o;obtain⟨o0,-⟩:=du hB;obtain⟨iX,ar,P,Q,R⟩:=TY Q8;obtain⟨iM,ap,L,N,O⟩:=TY Q7;have u:Xr (cD W b g M T):=hM;have an:Xr ((l5 46 (M.V.map (·.1))).n<=4294967296):=by show(M.V.map _).length<=_;rw[TR];have:=h.len.1;omega
 have al:Xr ((l5 47 (M.V.map (·.2.1))).n<=4294967296):=by show(M.V.map _).length<=_;rw[TR];have:=h.len.1;omega
 have E:Xr ((l5 46 (M.V.map (·.1))).n=M.V.length):=TR _;have z:Xr ((l5 47 (M.V.map (·.2.1))).n=M.V.length):=TR _;clear h hM hB;go_enter func12,ntmps12;go_upto_region 1 with fail
 rw[HW.o];go_upto_region 5 with (go_at_call 28;refine Tr (PE W) ?_;rintro e U ⟨rfl,hX,k1⟩)
 have S1:Xr _:=u.o.sep.put (6,M.V.length) (Rc W.heap.size [] 0 0 none) (k1.mono (by simp)) ⟨Ub _,hX⟩ (fun q l=>TA (by rcases Ua.1 l with e | e;exact Nat.le_of_eq e.symm;exact absurd (oi.1 e).2 (Wm _)));go_upto_region 6 with (go_at_call 29;refine Tr (Kk U) ?_;rintro e w2 ⟨rfl,hY,k2⟩)
 have S2:Xr _:=(S1.o.put (7,M.V.length) (Rb U.heap.size ⟨none,0⟩ [] 0 0 none) (k2.mono (by simp)) ⟨Ub _,_,_,_,hY⟩ (fun q l=>TA (by rcases Ua.1 l with e | e;exact Nat.le_of_eq e.symm;exact absurd (oi.1 (show q∈iU 0 0 from e)).2 (Wm _))));have a:Xr _:=(u.o.XD k1).XD k2;clear hX hY k1 k2;have c0:w2.cell? ⟨b,0,none⟩=some (slice M.hx.ao M.V.length M.hx.cap):=by rw[ah a.o.XR];rfl
 have G:=a.o.ownX;have y:Xr (b∉M.hx.XR.toList):=fun l=>a.o.sep.far (0,0) (1,0) (bm (by decide)) b (by rw[a.o.w0];exact TH.2 rfl) (by rw[a.o.x];exact l);obtain⟨J,r⟩:∃J,Xr (J=ed (ed g (6,M.V.length) (Rc W.heap.size [] 0 0 none)) (7,M.V.length) (Rb U.heap.size ⟨none,0⟩ [] 0 0 none)):=⟨_,rfl⟩
 rw[<-r.o]at S2;have af:Xr (J (0,0)=sP b 42 M.cells):=cg (by rw[r.o,Tj _ _ (bm (by decide)),Tj _ _ (bm (by decide))];exact u.o.w0);have ag:Xr (J (1,0)=b8 M.hx (l5 46 (M.V.map (·.1)))):=cg (by rw[r.o,Tj _ _ (bm (by decide)),Tj _ _ (bm (by decide))];exact u.o.x);have ai:Xr (J (2,0)=b8 M.hm (l5 47 (M.V.map (·.2.1)))):=cg (by rw[r.o,Tj _ _ (bm (by decide)),Tj _ _ (bm (by decide))];exact u.o.m);obtain⟨X,B⟩:=bn (W.heap.size);obtain⟨Y,F⟩:=bn (U.heap.size);rw[B.o,F.o]at r;rw[B.o,F.o];go_upto_region 7 with (at_builtin;refine dx w2 rfl (.tmp 29) (.tmp 31) 31 rfl iX (pointer none) 8 M.hx (l5 46 (M.V.map (·.1))) [P0 X] underlying31 ar P Q R rfl TQ (by rw[E.o];simp[Act.eval]) G an.o (by omega) (by simp[Act.eval]) rfl (by simp[P0,Value.oneCell']) ?_;intro c w5 p k;rw[Am]at p;have S:=k.XQ.get a.o.XR y.o;have f5:=am S;have c5:w5.cell? ⟨b,0,none⟩=some (slice M.hx.ao M.V.length M.hx.cap):=(by rw[ah S];rfl);have z5:=aj S)
 rw[E.o];have v:Xr _:=(S2.o.grown af.o (bm (by decide)) ag.o k p 0 (slice c.ao (M.V.length+1) c.cap));obtain⟨Z,ad⟩:=bn (w5.setCell ⟨b,0,none⟩ (slice c.ao (M.V.length+1) c.cap));rw[ad.o]at v ⊢;have d:Xr _:=bA (ed J (1,0) (b8 c (l5 46 (M.V.map (·.1)++[X])))) (0,0) (sP b 42 (M.cells.set 0 (slice c.ao (M.V.length+1) c.cap)));obtain⟨J6,i⟩:=bn (ed (ed J (1,0) (b8 c (l5 46 (M.V.map (·.1)++[X])))) (0,0) (sP b 42 (M.cells.set 0 (slice c.ao (M.V.length+1) c.cap))));have j:Xr (J6 (2,0)=b8 M.hm (l5 47 (M.V.map (·.2.1)))):=cg (by rw[<-i.o,Tj _ _ (bm (by decide)),Tj _ _ (bm (by decide))];exact ai.o);rw[i.o]at v d;have b6:Z.heap[b]?=some (.cells (M.cells.set 0 (slice c.ao (M.V.length+1) c.cap)).toArray 42):=by
  have:=v.o.all (0,0);rw[d.o]at this;exact this
 have ac:Xr _:=b6;have H:aB Z M.hm (l5 47 (M.V.map (·.2.1))):=by
  have:=v.o.all (2,0);rw[j.o]at this;exact this
 have f:Xr (b∉M.hm.XR.toList):=fun l=>v.o.far (0,0) (2,0) (bm (by decide)) b (by rw[d.o];exact TH.2 rfl) (by rw[j.o];exact l);clear S f5 c5 z5 p k c0 G;have c1:Z.cell? ⟨b,1,none⟩=some (slice M.hm.ao M.V.length M.hm.cap):=by rw[ah b6];rfl
 clear b6;go_wp2_with (at_builtin;refine dx Z rfl (.tmp 39) (.tmp 41) 32 rfl iM (pointer none) 8 M.hm (l5 47 (M.V.map (·.2.1))) [P0 Y] underlying32 ap L N O rfl TQ (by rw[z.o];simp[Act.eval]) H al.o (by omega) (by simp[Act.eval]) rfl (by simp[P0,Value.oneCell']) ?_;intro h7 w7 K I;rw[Am]at K;have p7:=I.XQ.get ac.o f.o;have f7:=am p7;have c7:w7.cell? ⟨b,1,none⟩=some (slice M.hm.ao M.V.length M.hm.cap):=(by rw[ah p7];rfl);have z7:=aj p7;rw[z.o]);go_ret;have S7:=v.o.grown d.o (bm (by decide)) j.o I K 1 (slice h7.ao (M.V.length+1) h7.cap);rw[<-i.o]at S7;exact⟨rfl,u.o.addV r.o S7⟩
end Go.Proofs.YtnbhnocdhbcbcaaGreat

import Derived.Deep.RegionHeld3
import Derived.Deep.RegionLaw
import Derived.Deep.CutRange
import Derived.Test.YtnbhnocdhbcbcaaGreatK26
import Derived.Test.YtnbhnocdhbcbcaaGreatK27
namespace Go.Proofs.YtnbhnocdhbcbcaaGreat
open Go.RowKit Tryz
open Value IntKind Ending
set_option maxHeartbeats 0
variable{yt:Nat->Bool}{w x o y9:Nat}{M:List Tk}{y6:Db}{z6:List il}{ya:List St}{y7:Nat->Hd}{H D:World}{y4:Xv}{i:Fs}{N:Option Nat}{L zt:Hd}{yd:Int}{z3 z4:Xs}{d:Nat×Nat->It}{y2:Nat×Nat}{x5 yu:eQ}{yv:List Value}{y3:Program}{yy:Array Oper}{y0:Oper}{y5:Act}{yz:Exit->Act->World->Prop}(I:Nat)(yf:Fs)(p z0:Xs)(y:Fs)(z2:Hd)(y1:Nat)(z1:List Tk)(t:List Sm)(b:Nat)(c:Option Nat)(s:Xs)(k:List il)(u:Xu)(T:Nat)(x1 yg yr ys:Value)(S:World)(g:Nat×Nat->It)
def QF(RS:List il)(lab:Xs)(a:Nat):Bool:=(bne (dV RS a).XS 0)&&((dV RS a).Ye.toList==lab.toList)
def CF(RS:List il)(lab:Xs):Option Nat:=(List.range RS.length).find? (QF RS lab)
theorem Fm(c:x<w)(a:∀i,i<x->yt i=false)(h:yt x=true):(List.range w).find? yt=some x:=by
 rw[WS];refine⟨h,x,by rw[Vm];exact c,by rw[WC],fun j b=>?_⟩;rw[WC,a j b];rfl
theorem MT(a:∀i,i<w->yt i=false):(List.range w).find? yt=none:=by
 rw[US];intro i b;rw[a i (TY.1 b)];simp
theorem CH(a:S.heap[b]?=some (.cells #[x1,bool false,yg,yr,ys] 85)) :
  Calls prog 62 #[pointer (some ⟨b,0,none⟩),string s] S fun e c=>e=returned (tuple #[int i64 0,int i64 7])/\c=S:=by
 obtain⟨-,d,-⟩:=od a;clear a;go_enter func62,ntmps62;go_wp2;exact TR (v:=tuple #[int i64 0,int i64 7]) (by simp[results,results62,go_sem]) rfl ⟨rfl,rfl⟩
def OO(RS:List il)(lab:Xs)(w:World)(e:Ending)(w':World):Prop:=e=returned (tuple #[int i64 ((CF RS lab).getD 0:Nat),int i64 (if(CF RS lab).isSome=true then 0 else 8)])/\w'=w
set_option maxRecDepth 100000
theorem CG(w:S.heap[b]?=some (.cells #[yg,bool true,yr,ys,slice u k.length T] 85))(t:dh S u 6 kJ k)(J:k.length<=100000) :
  Calls prog 62 #[pointer (some ⟨b,0,none⟩),string s] S fun e F=>OO k s S e F:=by
 obtain⟨-,O,-,-,P⟩:=od w;have x:=(show Xr (dh S u 6 kJ k) from t);clear w t;go_enter func62,ntmps62;go_wp2
 go_loopg [6] k.length (fun g i wr=>∃a:Nat,a<=k.length/\g=k.length-a/\i=int i64 a/\Xr (∀i,i<a->QF k s i=false)/\S=wr)
 ·exact⟨0,by omega,by omega,rfl,(fun i h=>by omega),rfl⟩
 obtain⟨a,I,H,rfl,f,rfl⟩:=hrel;rcases kn a k.length with ⟨c,B⟩ | ⟨c,-⟩
 ·have q:k[a]?=some (dV k a):=by unfold dV;rw[TG,TF c];rfl
  obtain⟨G,rfl,z,m⟩:=x.o a _ q;have p:=m 0 _ rfl;have y:=m 1 _ rfl;rw[Vs]at p;have d:Xr (QF k s a=((bne (dV k a).XS 0)&&((dV k a).Ye.toList==s.toList))):=rfl;clear m q;generalize dV k a=r at *;obtain⟨D,E,N,L,M,K⟩:=r;simp only at d p y;cases n:(E != 0)
  ·have j:Xr (∀i,i<a+1->QF k s i=false):=fun i A=>by
    by_cases e:i=a
    ·rw[e,d.o,n];rfl
    ·exact f.o i (by omega)
   go_wp2;go_roundg (k.length-(a+1))
   ·exact⟨a+1,by omega,rfl,by go_num,j,rfl⟩
   omega
  ·cases v:(D.toList==s.toList)
   ·have j:Xr (∀i,i<a+1->QF k s i=false):=fun i A=>by
     by_cases e:i=a
     ·rw[e,d.o,n,v];rfl
     ·exact f.o i (by omega)
    go_wp2;go_roundg (k.length-(a+1))
    ·exact⟨a+1,by omega,rfl,by go_num,j,rfl⟩
    omega
   ·have l:Xr (CF k s=some a):=Fm c f.o (by rw[d.o,n,v];rfl);go_wp2;exact TR (v:=tuple #[int i64 a,int i64 0]) (by simp[results,results62,go_sem]) rfl ⟨by rw[l.o];rfl,rfl⟩
 ·have e:a=k.length:=by omega
  subst e;have C:¬(k.length:Int)<k.length:=by omega
  have l:Xr (CF k s=none):=MT f.o;go_wp2;exact TR (v:=tuple #[int i64 0,int i64 8]) (by simp[results,results62,go_sem]) rfl ⟨by rw[l.o];rfl,rfl⟩
structure SZ(T:List Tk)(S:List Sm)(RS:List il):Prop where
 len:RS.length=S.length
 yes:∀a,a<S.length->aA (aq S a).k=true->(bne (dV RS a).XS 0)=true/\(dV RS a).Ye=bP T (aq S a)
 no:∀a,a<S.length->aA (aq S a).k=false->(bne (dV RS a).XS 0)=false
theorem gB.find(R:gB M y6)(E:SZ M (aa M) z6)(b:Xs):CF z6 b=(iu y6.Ya b).map (aw (aa M)):=by
 have c:((List.range y6.Ya.length).filter (nM y6.Ya b)).map (aw (aa M))=(List.range (aa M).length).filter (QF z6 b):=by
  refine rG R.hel.len (fun j m h=>?_) (fun n e=>?_)
  ·unfold QF at h;simp only[Bool.and_eq_true]at h;cases a:aA (aq (aa M) j).k
   ·rw[E.no j m a]at h;cases h.1
   ·unfold aA at a;simp only[Bool.or_eq_true]at a;unfold kF;rcases a with a | a <;> rw[a] <;> simp
  ·obtain⟨s,p,l,o,-⟩:=R.get e;have d:=R.hel.at_ e;unfold nM QF;rw[p];simp only;have f:=(cm l).2.2.2;cases a:aA (aq (aa M) (aw (aa M) n)).k
   ·rw[E.no _ d a];unfold aA at a;rw[f,a];simp
   ·obtain⟨g,i⟩:=E.yes _ d a;rw[g,i];unfold aA at a;rw[f,a,o];simp
 unfold CF iu;rw[E.len,<-List.head?_filter,<-c,List.head?_map,List.head?_filter]
theorem Ft(G:qt M y6)(E:SZ M (aa M) z6)(a:Xs):(iu y6.Ya a=none->CF z6 a=none)/\∀n,iu y6.Ya a=some n->CF z6 a=some (aw (aa M) n)/\Nl y6.Ya n=Rl M (aa M) (aw (aa M) n):=by
 have h:=G.r.find E a;refine⟨fun e=>by rw[h,e];rfl,fun n e=>⟨by rw[h,e];rfl,?_⟩⟩;have b:n<y6.Ya.length:=by
  unfold iu at e;exact TY.1 (UC e)
 refine G.r.frame G.f b (fun s c=>?_);unfold iu at e;have:=Vq e;unfold nM at this;rw[c]at this;simp only[Bool.and_eq_true]at this;exact this.2
theorem GQ(P:List di)(a:Xs)(b:Tk):∀(f k:Nat) (M:List Xt),(bne (nZ z1 t T P a b f k M).XS 0)=true/\(nZ z1 t T P a b f k M).Ye=a:=by
 intro f
 induction f with
 | zero =>
  intro k M;unfold nZ tq
  repeat' split
  all_goals exact⟨rfl,rfl⟩
 | succ f c =>
  intro k M;unfold nZ
  repeat' split
  all_goals first
   | exact⟨rfl,rfl⟩
   | exact c _ _
theorem Cl(p:jP)(a:Tk):(bne (lA z1 t T p a).XS 0)=true/\(lA z1 t T p a).Ye=bP z1 (aq t T):=by
 unfold lA;split
 ·exact⟨rfl,rfl⟩
 ·split
  ·exact⟨rfl,rfl⟩
  ·exact GQ z1 t T _ _ a _ _ _
theorem Aq:(aA (aq t T).k=true->(bne (mI z1 t (Ap z1 t) T).XS 0)=true/\(mI z1 t (Ap z1 t) T).Ye=bP z1 (aq t T))/\(aA (aq t T).k=false->(bne (mI z1 t (Ap z1 t) T).XS 0)=false):=by
 unfold mI aA;cases a:Nf t T
 ·cases b:mx t T
  ·unfold Nf at a;unfold mx at b;rw[a,b];exact⟨(fun h=>by cases h),fun _=>rfl⟩
  ·unfold mx at b;rw[b,WK];refine⟨fun _=>?_,fun h=>by cases h⟩;exact Cl z1 t T _ _
 ·unfold Nf at a;rw[a,VD];exact⟨fun _=>⟨rfl,rfl⟩,fun h=>by cases h⟩
theorem oJ.tell{S:List Sm}{i:List (jP×Hd)}(h:oJ S i ((List.range S.length).map (mI M S (Ap M S))) z6 S.length):SZ M S z6:=by
 have o:z6.length=S.length:=by rw[h.len,Uh,Vm]
 have d:∀a,a<S.length->dV ((List.range S.length).map (mI M S (Ap M S))) a=mI M S (Ap M S) a:=fun a b=>by
  unfold dV;rw[TG,Uo,Vu b];rfl
 have f:∀a,a<S.length->(dV z6 a).Ye=(mI M S (Ap M S) a).Ye/\(bne (dV z6 a).XS 0)=(bne (mI M S (Ap M S) a).XS 0):=fun a b=>by
  by_cases c:(dV ((List.range S.length).map (mI M S (Ap M S))) a).XS=4/\pY S i ((List.range S.length).map (mI M S (Ap M S))) a
  ·have e:=h.yes a b c.1 c.2;have j:=c.1;rw[d a b]at e j;rw[e];exact⟨rfl,by simp only;rw[j];rfl⟩
  ·rw[h.no a b c,d a b];exact⟨rfl,rfl⟩
 refine⟨o,fun a b g=>?_,fun a b g=>?_⟩
 ·obtain⟨k,l⟩:=f a b;obtain⟨m,n⟩:=(Aq M S a).1 g;exact⟨by rw[l];exact m,by rw[k];exact n⟩
 ·rw[(f a b).2];exact(Aq M S a).2 g
def wf(RS:List il):List il:=RS.filter (fun r=>bne r.XS 0)
theorem N6(r:il):∀u∈kJ r,u.oneCell'=true:=by
 intro u a;simp only[kJ,List.mem_cons,List.not_mem_nil,or_false]at a;rcases a with rfl | rfl | rfl | rfl | rfl | rfl <;> rfl
set_option maxRecDepth 512
theorem Lh(a:S.heap[T]?=some (.cells #[x1,bool false,yg,yr,ys] 85)) :
  Calls prog 23 #[pointer (some ⟨T,0,none⟩)] S fun e b=>e=returned (slice none 0 0)/\b=S:=by
 obtain⟨-,c,-⟩:=od a;clear a;go_enter func23,ntmps23;go_wp2;go_ret;exact⟨rfl,rfl⟩
def OR(RS:List il)(w:World)(e:Ending)(w':World):Prop:=∃h',e=returned (slice h'.ao (wf RS).length h'.cap)/\ik w w' h' (gG (wf RS))
set_option maxRecDepth 100000
theorem Lg(E:S.heap[b]?=some (.cells #[yg,bool true,yr,ys,slice u k.length T] 85))(N:dh S u 6 kJ k)(hl:k.length<=100000) :
  Calls prog 23 #[pointer (some ⟨b,0,none⟩)] S fun e w'=>OR k S e w':=by
 obtain⟨-,v1,-⟩:=od E;have R:Xr _:=E;have Q:=(show Xr (dh S u 6 kJ k) from N);have A:Xr (ik S S ⟨none,0⟩ (gG (wf (k.take 0)))):=⟨TQ _ _ _ _,(by intro a O;cases O),ae.refl _ _⟩;obtain⟨iR,F,s,t,v⟩:=Ul IB;clear E N;go_enter func23,ntmps23;go_wp2;clear v1
 go_loopg [3,4] k.length (fun g o i wr=>∃(a:Nat) (d:Hd) (L:List il),a<=k.length/\g=k.length-a/\o=slice d.ao L.length d.cap/\i=int i64 a/\L.length<=a/\Xr (L=wf (k.take a))/\Xr (ik S wr d (gG L)))
 ·exact⟨0,⟨none,0⟩,[],by omega,rfl,rfl,rfl,TI _,rfl,A⟩
 obtain⟨a,d,L,O,hg,rfl,rfl,ac,w,m⟩:=hrel;have B:Xr _:=(m.o.Yb.get R.o (by simp));obtain⟨-,-,-,-,v4⟩:=od B.o;rcases kn a k.length with ⟨j,af⟩ | ⟨j,-⟩
 ·obtain⟨g0,rfl,ad,f⟩:=(dh.XR Q.o m.o.Yb) a _ (TF j);have M:=f 0 _ rfl;have U:=f 1 _ rfl;have V:=f 2 _ rfl;have W:=f 3 _ rfl;have X:=f 4 _ rfl;have Y:=f 5 _ rfl;rw[Vs]at M;have c:Xr (wf (k.take (a+1))=L++(if(bne k[a].XS 0)=true then [k[a]] else [])):=by
   show _=_;rw[w.o];unfold wf;rw[WF,TF j,UV];congr 1;cases h:(bne k[a].XS 0) <;> simp[h]
  clear f;generalize k[a]=r at *;obtain⟨I,x,K,H,J,G⟩:=r;simp only at c M U V W X Y;cases P:(x != 0)
  ·have y:Xr (L=wf (k.take (a+1))):=(by show _=_;rw[c.o,P,TH (by simp),Uk]);go_wp2;go_roundg (k.length-(a+1))
   ·exact⟨a+1,d,L,by omega,rfl,rfl,by go_num,by omega,y,m⟩
   omega
  ·have y:Xr (L++[⟨I,x,K,H,J,G⟩]=wf (k.take (a+1))):=(by show _=_;rw[c.o,P,TJ rfl]);have C:=m.o.Ym;have D:Xr ((gG L).n<=900000000):=(by show L.length<=_;omega);have p:Xr ((gG L).n=L.length):=rfl;go_wp2_with (at_builtin;refine cC wr rfl (.tmp 28) (.tmp 36) 54 rfl iR (agg #[string ⟨#[]⟩,int i64 0,int i64 0,string ⟨#[]⟩,int i64 0,int i64 0]) 64 d (gG L) (kJ ⟨I,x,K,H,J,G⟩) underlying54 F s t v rfl (show 0<6 by omega) (by rw[p.o];simp[Act.eval]) C D.o (by omega) (by simp[Act.eval]) rfl (N6 _) ?_;intro Z w5 l q;rw[gG,iA]at l;have z:Xr _:=m.o.X6 q l;clear l q);go_roundg (k.length-(a+1))
   ·exact⟨a+1,Z,L++[(⟨I,x,K,H,J,G⟩:il)],by omega,rfl,by rw[p.o,TO];rfl,by go_num,by rw[TO];show _+1<=_;omega,y,z⟩
   omega
 ·have e:a=k.length:=by omega
  subst e;have ag:¬(k.length:Int)<k.length:=by omega
  rw[U3]at w;go_wp2;go_ret;exact⟨d,by rw[<-w.o];rfl,by rw[<-w.o];exact m.o⟩
def vl(bo:Option Nat):Xu:=bo.map (fun b=>⟨b,0,none⟩)
def iV(lo hi:Nat):Xv:=List.range' lo (hi-lo)
theorem oj:o∈iV w x ↔ w<=o/\o<x:=by
 unfold iV;rw[List.mem_range'_1];omega
def Sh(l:List St)(H:Nat->Hd)(q:Nat):Prop:=(H 6).Yc=some q∨∃i s,l[i]?=some s/\((H (10+2*i)).Yc=some q∨(H (11+2*i)).Yc=some q)
theorem Sh.inH(h:Sh ya y7 w):ij y7 w:=by
 rcases h with h | ⟨i,s,-,h | h⟩
 ·exact⟨6,h⟩
 ·exact⟨_,h⟩
 ·exact⟨_,h⟩
theorem ir.ltU(h:ir H ya y7)(u:Sh ya y7 w):w<H.heap.size:=by
 rcases u with u | ⟨i,s,a,u | u⟩
 ·exact h.Ym.lt u
 ·exact(h.syms i s a).lt u
 ·exact(h.prfs i s a).lt u
theorem ir.keptU(h:ir H ya y7)(k:ae y4 H D)(c:∀x,Sh ya y7 x->x∉y4):ir D ya y7 :=
 ⟨h.Ym.XX (fun x a=>k.block x (h.Ym.lt a) (c x (TZ a))),fun i s b=>(h.syms i s b).XX (fun x a=>k.block x ((h.syms i s b).lt a) (c x (TU ⟨i,s,b,TZ a⟩))),fun i s b=>(h.prfs i s b).XX (fun x a=>k.block x ((h.prfs i s b).lt a) (c x (TU ⟨i,s,b,TU a⟩)))⟩
def SV(w:World)(x:Nat)(fs:Fs)(lo hi:Nat):Option Nat->Prop
 | none=>kC w x fs
 | some k=>(k<fs.length/\((fT fs k).1==0)=true)/\∃H g,nE w x fs (bn fs k).2.2.Ya H g/\(lo<=g/\g<hi)/\∀q,Sh (bn fs k).2.2.Ya H q->lo<=q/\q<hi
structure eu(w:World)(x:Nat)(fs:Fs)(lo hi:Nat)(st:Option Nat):Prop where
 z:hi<=w.heap.size
 s:SV w x fs lo hi st
def SQ(w:World)(v:Nat)(fs:Fs)(h:Hd)(lo hi:Nat):Option Nat->Prop
 | none=>∃p2 p3 p4,gC w v fs h false p2 p3 p4
 | some k=>zh w v fs h (cG fs k).1 lo hi
structure dG(w:World)(v:Nat)(fs:Fs)(h:Hd)(lo hi:Nat)(st:Option Nat):Prop where
 z:hi<=w.heap.size
 s:SQ w v fs h lo hi st
theorem eu.anyS(a:eu H w i x o N):lP H w i:=by
 have:=a.s;cases N with
 | none=>exact kC.anyR this
 | some k=>obtain⟨-,b,g,h,-⟩:=this;exact h.anyR
theorem dG.anyS(a:dG H w i L x o N):∃b c d e,gC H w i L b c d e:=by
 have:=a.s;cases N with
 | none=>exact⟨false,this⟩
 | some k=>exact⟨true,zh.rvAt this⟩
theorem eu.Yb(a:eu H w i x o N)(k:ae y4 H D)(c:∀q,q∈w :: iV x o->q∉y4):eu D w i x o N:=by
 refine⟨TV a.z k.size,?_⟩;have l:=c w Ur;have e:∀q,x<=q/\q<o->q∉y4:=fun q b=>c q (Uq _ (oj.2 b));have:=a.s;cases N with
 | none=>exact kC.Yb this k l
 | some j =>
  obtain⟨r,m,g,h,d,f⟩:=this;obtain⟨n,u,p,t⟩:=h.ver;exact⟨r,m,g,⟨⟨n,u,p,bO.Yb t k l⟩,h.Ya.keptU k (fun q b=>e q (f q b)),k.get h.arr (e g d),h.far⟩,d,f⟩
theorem dG.Yb(a:dG H w i L x o N)(k:ae y4 H D)(b:∀q,q∈w :: (L.Yc.toList++iV x o)->q∉y4):dG D w i L x o N:=by
 refine⟨TV a.z k.size,?_⟩;have d:=b w Ur;have c:∀q,L.Yc=some q->q∉y4:=fun q g=>b q (Uq _ (UQ _ (by rw[g];simp)));have l:∀q,x<=q->q<o->q∉y4:=fun q e f=>b q (Uq _ (Vb _ (oj.2 ⟨e,f⟩)));have:=a.s;cases N with
 | none=>obtain⟨m,n,p,r⟩:=this;exact⟨m,n,p,r.keptS k d c⟩
 | some j=>exact zh.Yb this k d c l
theorem dG.XR(a:dG H w i L x o N)(k:ae [] H D):dG D w i L x o N:=a.Yb k (fun _ _ b=>by cases b)
theorem eu.XR(a:eu H w i x o N)(k:ae [] H D):eu D w i x o N:=a.Yb k (fun _ _ b=>by cases b)
theorem eu.lt(a:eu H w i x o N)(q:Nat)(b:q∈w :: iV x o):q<H.heap.size:=by
 rcases Un.1 b with e | e
 ·rw[e];exact a.anyS.lt
 ·have:=oj.1 e;have:=a.z;omega
theorem dG.lt{h:Hd}(a:dG H w i h x o N)(q:Nat)(b:q∈w :: (h.Yc.toList++iV x o)):q<H.heap.size:=by
 obtain⟨c,f,g,j,r⟩:=a.anyS;rcases Un.1 b with e | e
 ·rw[e];exact aj r.d
 ·rcases Ut.1 e with e | e
  ·exact r.Ym.lt (aQ e)
  ·have:=oj.1 e;have:=a.z;omega
theorem eu.same(a:eu H w i x o N):∃b f l m,jt H w i b f l m/\∀c,jt c w i b f l m->ae [w] H c->eu c w i x o N:=by
 have h:=a.s;cases N with
 | none=>exact⟨_,_,_,_,h,fun c d k=>⟨TV a.z k.size,d⟩⟩
 | some j =>
  obtain⟨u,n,g,r,v,A⟩:=h;obtain⟨p,B,t,d⟩:=r.ver;refine⟨_,_,_,_,d,fun c e k=>⟨TV a.z k.size,u,n,g,⟨⟨p,B,t,e⟩,r.Ya.keptU k (fun q y=>by simp;exact r.far.2 q y.inH),k.get r.arr (by simp;exact Ne.symm r.far.1),r.far⟩,v,A⟩⟩
def mX(c:Int)(st:Option Nat):Option Nat:=if c=0 then none else st
theorem rm(h:yd=0):mX yd N=none:=TJ h
theorem tG(h:yd≠0):mX yd N=N:=TH h
theorem TE(h:(fI i z3 z4).1≠0):(fI i z3 z4).2=i:=by
 unfold fI at h ⊢;split
 ·rfl
 ·next c =>
  rw[TH c]at h;split
  ·next a=>rw[TJ a]at h;exact absurd rfl h
  ·next a =>
   rw[TH a]at h;split
   ·rfl
   ·next b=>rw[TH b]at h;exact absurd rfl h
theorem Qa(h:eu S I y y1 b c)(i:p.size<=1073741824)(g:z0.size<=4294967296) :
  Calls prog 15 #[pointer (some ⟨I,0,none⟩),string p,string z0] S fun e d=>e=returned (int i64 (fI y p z0).1)/\eu d I (fI y p z0).2 y1 b (mX (fI y p z0).1 c)/\ae [I] S d:=by
 by_cases a:(fI y p z0).1=0
 ·refine(OE I p z0 y S h.anyS i g).mono (fun e d q=>⟨q.1,?_,q.2.2.2⟩);rw[rm a];exact⟨TV h.z q.2.2.2.size,q.2.2.1 a⟩
 ·obtain⟨f,m,n,o,l,k⟩:=h.same;refine(Qz I p z0 y f m n o S l i g a).mono (fun e d q=>⟨q.1,?_,q.2.2⟩);have j:=q.2.1;rw[TE a]at j ⊢;rw[tG a];exact k d j q.2.2
theorem DW(g f:Nat)(i:Option Nat)(w:World)(h:eu w I yf g f i)(j:lD w u y)(c:mm y) :
  Calls prog 31 #[pointer (some ⟨I,0,none⟩),slice u y.length T] w fun e b=>e=returned (int i64 (dS y))/\eu b I (jX yf y) g f (mX (dS y) i)/\ae [I] w b:=by
 obtain⟨d,o,p,r,l,k⟩:=h.same;refine(LI I yf y d o p r u T w l j c).mono (fun e b q=>⟨q.1,?_,q.2.2⟩);obtain⟨m,n⟩:=q.2.1;by_cases a:dS y=0
 ·rw[rm a];exact⟨TV h.z q.2.2.size,m a⟩
 ·have:=n a;rw[qK rfl a]at this ⊢;rw[tG a];exact k b this q.2.2
theorem O6(a:dG S I y z2 y1 b c)(n:p.size<=1073741824)(l:z0.size<=4294967296) :
  Calls prog 16 #[pointer (some ⟨I,0,none⟩),string p,string z0] S fun e j=>e=returned (int i64 (fI y p z0).1)/\∃f,dG j I (fI y p z0).2 f y1 b (mX (fI y p z0).1 c)/\ae (I :: z2.Yc.toList) S j/\∀q,f.Yc=some q->z2.Yc=some q∨S.heap.size<=q:=by
 obtain⟨o,s,t,u,r⟩:=a.anyS;refine(KE I y z2 o s t u p z0 S r n l).mono (fun e j q=>⟨q.1,?_⟩);by_cases d:(fI y p z0).1=0
 ·obtain⟨f,v,g⟩:=q.2.1 d;rw[rm d];refine⟨f,⟨TV a.z g.Yb.size,_,_,_,v⟩,g.Yb,fun q i=>?_⟩;rcases g.Yc with e | ⟨w,e,m⟩
  ·exact TZ (by rw[<-e];exact i)
  ·rw[e]at i;cases i;exact TU m
 ·have k:=q.2.2 d;rw[tG d,TE d];exact⟨z2,a.XR k,k.mono (by simp),fun _ e=>TZ e⟩
theorem CX(a:dG S I yf z2 y1 b c)(n:oc S u T y)(p:u=none->y.length=0/\T=0)(o:∀m,u=some m->∃g,m=⟨g,0,none⟩)(i:∀j,j<y.length->(aG y j).size<=1073741824/\(ak y j).size<=1073741824) :
  Calls prog 32 #[pointer (some ⟨I,0,none⟩),slice u y.length T] S fun e l=>e=returned (int i64 (dS y))/\∃f,dG l I (jX yf y) f y1 b (mX (dS y) c)/\ae (I :: z2.Yc.toList) S l/\∀q,f.Yc=some q->z2.Yc=some q∨S.heap.size<=q:=by
 obtain⟨t,v,w,x,r⟩:=a.anyS;refine(FI I yf y z2 t v w x u T S r n p o i).mono (fun e l q=>⟨q.1,?_⟩);by_cases d:dS y=0
 ·obtain⟨f,A,g,s⟩:=q.2.1 d;rw[rm d];exact⟨f,⟨TV a.z g.size,_,_,_,A⟩,g,s⟩
 ·have k:=q.2.2 d;rw[tG d,qK rfl d];exact⟨z2,a.XR k,k.mono (by simp),fun _ e=>TZ e⟩
theorem C4(a:y.length<=4)(b:∀j,j<y.length->(ak y j).size<=1024)(d:T<y.length)(h:((fT y T).1==0)=true):fT y T=cY:=by
 unfold fT at h;split at h
 ·next c =>
  have e:(MS (zO (cG y T).1 (aa (cG y T).1))).1=(zO (cG y T).1 (aa (cG y T).1)).Yl:=rfl;rw[e,c]at h;cases h
 ·next c =>
  exact(xA y T a b d (by cases q:((zO (cG y T).1 (aa (cG y T).1)).Yl==0);exact absurd q c;rfl) h).1
def oL(z lo hi lo1 hi1:Nat):Prop:=(lo1=lo/\hi1=hi)∨z<=lo1
theorem oL.mem{z lo hi:Nat}(h:oL z lo hi w x)(a:o∈iV w x):o∈iV lo hi∨z<=o:=by
 rcases h with ⟨rfl,rfl⟩ | h
 ·exact TZ a
 ·exact TU (TV h (oj.1 a).1)
def Tn(w:World)(x:Nat)(fs:Fs)(lo hi:Nat)(f:pu)(q:Int)(st:Option Nat)(e:Ending)(w':World):Prop :=
 e=returned (tuple #[iw f,int i64 q])/\(∃lo1 hi1,eu w' x fs lo1 hi1 st/\oL w.heap.size lo hi lo1 hi1)/\ae [x] w w'
def Tm(w:World)(m:Nat)(fs:Fs)(h:Hd)(lo hi:Nat)(f:pu)(q:Int)(st:Option Nat)(e:Ending)(w':World):Prop :=
 e=returned (tuple #[iw f,int i64 q])/\(∃lo1 hi1,dG w' m fs h lo1 hi1 st/\oL w.heap.size lo hi lo1 hi1)/\ae [m] w w'
theorem Mx(a:Fs)(h:Hd)(D C o m:Nat)(F:Option Nat)(n:Xs)(w:World)(I:eu w b a D C F)(x:a.length<=4)(p:∀j,j<a.length->(ak a j).size<=1024) :
  ∃(f:pu) (q:Int) (B:Option Nat),Calls prog 37 #[pointer (some ⟨b,0,none⟩),string n] w (fun e i=>Tn w b a D C f q B e i) /\
   ∀c,dG c T a h o m F->Calls prog 38 #[pointer (some ⟨T,0,none⟩),string n] c (fun e i=>Tm c T a h o m f q B e i):=by
 rcases qD n a with u | ⟨k,v,u⟩
 ·obtain⟨O,u0,u1,u2,X,W⟩:=I.same;refine⟨cY,5,F,(EJ b a n O u0 u1 u2 w X (by rw[u];decide)).mono (fun e i q=>⟨q.1,⟨D,C,W i q.2.1 q.2.2,TZ ⟨rfl,rfl⟩⟩,q.2.2⟩),fun c d=>?_⟩;obtain⟨J,K,L,M,r⟩:=d.anyS;exact(zB T a h J K L M n c r (by rw[u];decide)).mono (fun e i q=>⟨q.1,⟨o,m,d.XR q.2,TZ ⟨rfl,rfl⟩⟩,q.2.mono (by simp)⟩)
 ·obtain⟨P,-⟩:=xy a k x p v;have A:=GS b k a n w I.anyS u v p;have y:∀c,dG c T a h o m F->Calls prog 38 #[pointer (some ⟨T,0,none⟩),string n] c fun e i=>Ta a k T h (fT a k) (if((fT a k).1==0)=true then 0 else 6) c e i:=fun c d=>by
   obtain⟨J,K,L,M,r⟩:=d.anyS;exact Cn T k a h J K L M n c r u v p
  cases t:((fT a k).1==0)
  ·refine⟨fT a k,6,none,A.mono (fun e i q=>?_),fun c d=>(y c d).mono (fun e i q=>?_)⟩
   ·obtain⟨s,d⟩:=q;rw[P,t,TH (by simp)]at s;exact⟨s.1,⟨D,C,⟨TV I.z d.size,s.2⟩,TZ ⟨rfl,rfl⟩⟩,d⟩
   ·rw[t,TH (by simp)]at q;obtain⟨N,⟨-,Z⟩,E⟩:=q;exact⟨N,⟨o,m,⟨TV d.z E.size,Z (by decide)⟩,TZ ⟨rfl,rfl⟩⟩,E⟩
  ·refine⟨fT a k,0,some k,A.mono (fun e i q=>?_),fun c d=>(y c d).mono (fun e i q=>?_)⟩
   ·obtain⟨s,d⟩:=q;rw[P,t,TJ rfl]at s;obtain⟨s,H,g,G,S,U⟩:=s;exact⟨by rw[s,C4 a k x p v t],⟨w.heap.size,i.heap.size,⟨TI _,⟨v,t⟩,H,g,G,⟨S,aj G.arr⟩,fun R Q=>⟨U R Q.inH,G.Ya.ltU Q⟩⟩,TU (TI _)⟩,d⟩
   ·rw[t,TJ rfl]at q;obtain⟨N,⟨Y,-⟩,E⟩:=q;obtain⟨l,V,r⟩:=Y rfl;exact⟨N,⟨l,i.heap.size,⟨TI _,r⟩,TU V⟩,E⟩
def QY(fs:Fs)(st:Option Nat)(lab:Xs):Xt×Int :=
 match st with
 | none=>([],7)
 | some k=>match iu (bn fs k).2.2.Ya lab with
  | none=>([],8)
  | some n=>(Nl (bn fs k).2.2.Ya n,0)
structure qo(w:World)(bo:Option Nat)(L:Xt):Prop where
 nil:bo=none ↔ L=[]
 Yc:∀b,bo=some b->w.heap[b]?=some (.cells (dL L).toArray 9)
def Tg(L:Xt)(c:Int)(w:World)(e:Ending)(w':World):Prop:=∃h',e=returned (tuple #[slice h'.ao L.length h'.cap,int i64 c])/\ik w w' h' (aE L)
theorem Bn(b:i.length<=4)(a:∀j,j<i.length->(ak i j).size<=1024)(k:w<i.length)(f:((fT i w).1==0)=true):qt (cG i w).1 (bn i w).2.2/\(cG i w).1.length<=10000/\fn (cG i w).1:=by
 obtain⟨c,g⟩:=xy i w b a k;obtain⟨d,e⟩:=g (by rw[c];exact f);exact⟨d,e,Dd i w (tV a)⟩
theorem wM(L:Xt)(a:L=[]):ik S S ⟨none,0⟩ (aE L):=by subst a;exact⟨TQ _ _ _ _,(by intro k b;cases b),ae.refl _ _⟩
theorem RZ(O:dG S I y z2 y1 b c)(p:∀k,c=some k->k<y.length/\((fT y k).1==0)=true)(o:y.length<=4)(t:∀j,j<y.length->(ak y j).size<=1024) :
  Calls prog 41 #[pointer (some ⟨I,0,none⟩),string s] S fun e i=>Tg (QY y c s).1 (QY y c s).2 S e i:=by
 have x:=O.s;cases c with
 | none =>
  obtain⟨P,Q,R,r⟩:=x;refine(frameR_no I s 7 (by decide) S (CH I s _ P Q R S r.d)).mono (fun e i q=>⟨⟨none,0⟩,q.1,?_⟩);rw[q.2];exact wM S _ rfl
 | some k =>
  obtain⟨N,J⟩:=p k rfl;obtain⟨G,M,L⟩:=Bn o t N J;obtain⟨C,B,E,A,D,U,V,v,g,r⟩:=x;have l:=r.Yh.tell;have a:=aB.srcG (f:=kJ) r.s2 (fun _=>rfl);have W:(aa (cG y k).1).length<=(cG y k).1.length:=om _ _;obtain⟨F,H⟩:=Ft G l s;unfold QY;simp only;cases w:iu (bn y k).2.2.Ya s with
  | none =>
   have m:=F w;refine(frameR_no I s 8 (by decide) S ((CG I s v g.ao g.cap _ _ _ S r.rv.d a (by rw[l.len];omega)).mono (fun e i q=>?_))).mono (fun e i q=>⟨⟨none,0⟩,q.1,?_⟩)
   ·obtain⟨z,T⟩:=q;rw[m]at z;exact⟨z,T⟩
   ·rw[q.2];exact wM S _ rfl
  | some n =>
   obtain⟨m,K⟩:=H n w;simp only;rw[K];exact frameR_at I C _ s _ B E A D v g.ao g.cap _ _ S r.rv.d a r.db M L G.u l m
def Th(w:World)(e:Ending)(w':World):Prop:=∃(L:List il) (h':Hd),e=returned (slice h'.ao L.length h'.cap)/\ik w w' h' (gG L)/\L.length<=100000
theorem MG(x:dG S I y z2 y1 b c)(l:∀k,c=some k->k<y.length/\((fT y k).1==0)=true)(i:y.length<=4)(m:∀j,j<y.length->(ak y j).size<=1024) :
  Calls prog 23 #[pointer (some ⟨I,0,none⟩)] S fun e n=>Th S e n:=by
 have t:=x.s;cases c with
 | none =>
  obtain⟨z,A,B,r⟩:=t;refine(Lh I _ z A B S r.d).mono (fun e n q=>⟨[],⟨none,0⟩,q.1,?_,by simp⟩);rw[q.2];exact⟨TQ _ _ _ _,(by intro k g;cases g),ae.refl _ _⟩
 | some k =>
  obtain⟨g,v⟩:=l k rfl;obtain⟨G,O,N⟩:=Bn i m g v;obtain⟨J,H,L,F,K,E,M,o,p,r⟩:=t;have w:=r.Yh.tell;have P:(aa (cG y k).1).length<=(cG y k).1.length:=om _ _;have a:o.length<=100000:=by rw[w.len];omega
  refine(Lg I o p.ao p.cap _ _ _ S r.rv.d (aB.srcG (f:=kJ) r.s2 (fun _=>rfl)) a).mono (fun e n q=>?_);obtain⟨u,C,D⟩:=q;exact⟨_,u,C,D,TV (Vh _ _) a⟩
def sQ(b t:Nat)(c:List Value):It where
 B:=[b]
 P w:=w.heap[b]?=some (.cells c.toArray t)
 lt w h q hq:=by rw[T0.1 hq];exact aj h
 ok S w w' h k hb:=k.get h (hb b (by simp))
def b8(h:Hd)(r:eQ):It where
 B:=h.Yc.toList
 P w:=aB w h r
 lt w o q hq:=o.lt (aQ hq)
 ok S w w' o k hb:=o.XX (fun q hq=>k.block q (o.lt hq) (hb q (by rw[hq];simp)))
def Ri(x:Nat)(fs:Fs)(lo hi:Nat)(st:Option Nat):It where
 B:=x :: iV lo hi
 P w:=eu w x fs lo hi st
 lt _ a q hq:=a.lt q hq
 ok _ _ _ a k hb:=a.Yb k hb
def Rh(v:Nat)(h:Hd)(fs:Fs)(lo hi:Nat)(st:Option Nat):It where
 B:=v :: (h.Yc.toList++iV lo hi)
 P w:=dG w v fs h lo hi st
 lt _ a q hq:=a.lt q hq
 ok _ _ _ a k hb:=a.Yb k hb
def AL(fs:Fs):Prop:=∀j,j<fs.length->(ak fs j).size<=1024
structure jq(w:World)(bo:Option Nat)(fs:Fs):Prop where
 nil:bo=none->fs=[]
 Yc:∀b,bo=some b->w.heap[b]?=some (.cells (rT fs).toArray 68)
def vU(bo:Option Nat)(fs:Fs):It where
 B:=bo.toList
 P w:=jq w bo fs
 lt w a q hq:=by
  cases bo with
  | none=>cases hq
  | some b=>rw[Xn,T0]at hq;rw[hq];exact aj (a.Yc b rfl)
 ok S w w' a k hb:=⟨a.nil,fun b e=>k.get (a.Yc b e) (hb b (by rw[e];simp))⟩
def BA(x:Option Nat×Fs):Value:=slice (vl x.1) x.2.length x.2.length
def iW(l:List (Option Nat×Fs)):eQ:=⟨33,1,l.length,l.map BA⟩
def Qb(x:Nat):Value:=pointer (some ⟨x,0,none⟩)
def l5(t:Nat)(l:Xv):eQ:=⟨t,1,l.length,l.map Qb⟩
structure Mc where
 hx:Hd
 hm:Hd
 hr:Hd
 hl:Hd
 hc:Hd
 V:List (Nat×Nat×Fs)
 reg:Fs
 L:List (Option Nat×Option Nat×Fs)
 a:Int
 n:Int
 e:Int
 u:Int
 s:Xs
 p:Int
 q:Int
 f:Xs
 i:Int
 j:Int
 qv:Value
 tv:Value
def Mc.cells(M:Mc):List Value:=[slice M.hx.ao M.V.length M.hx.cap,slice M.hm.ao M.V.length M.hm.cap,slice M.hr.ao M.reg.length M.hr.cap,slice M.hl.ao M.L.length M.hl.cap,slice M.hc.ao M.L.length M.hc.cap,int i64 M.a,int i64 M.n,int i64 M.e,int i64 M.u,string M.s,int i64 M.p,int i64 M.q,string M.f,int i64 M.i,int i64 M.j,M.qv,M.tv]
structure cD(w:World)(b:Nat)(I:Nat×Nat->It)(M:Mc)(N:Nat):Prop where
 sep:ox w I
 w0:I (0,0)=sQ b 42 M.cells
 x:I (1,0)=b8 M.hx (l5 46 (M.V.map (·.1)))
 m:I (2,0)=b8 M.hm (l5 47 (M.V.map (·.2.1)))
 r:I (3,0)=b8 M.hr (cW M.reg)
 ls:I (4,0)=b8 M.hl (iW (M.L.map (fun l=>(l.1,l.2.2))))
 lw:I (5,0)=b8 M.hc (iW (M.L.map (fun l=>(l.2.1,l.2.2))))
 v:∀i x m fs,M.V[i]?=some (x,m,fs)->(∃st h lo hi lo2 hi2,I (6,i)=Ri x fs lo hi st/\I (7,i)=Rh m h fs lo2 hi2 st)/\AL fs
 l:∀k a c fs,M.L[k]?=some (a,c,fs)->I (8,k)=vU a fs/\I (9,k)=vU c fs/\mm fs/\fs.length<=N
 fit:mm M.reg
 len:M.V.length<=N/\M.reg.length<=N/\M.L.length<=N
 rng:rk M.a/\rk M.n/\rk M.e
structure sC(I:Nat×Nat->It)(M:Mc)(I':Nat×Nat->It)(M':Mc):Prop where
 k:∀j i,10<=j->I' (j,i)=I (j,i)
 q:M'.qv=M.qv
 t:M'.tv=M.tv
theorem sC.refl(M:Mc):sC g M g M:=⟨fun _ _ _=>rfl,rfl,rfl⟩
theorem pS{a:It}(b:w<10)(c:10<=o):ed d (w,x) a (o,y9)=d (o,y9):=TA _ _ (bm (by omega))
theorem cD.XR{M:Mc}(h:cD H w d M x)(k:ae [] H D):cD D w d M x:={ h with sep:=h.sep.XR k }
theorem cD.more{M:Mc}(h:cD H w d M x):cD H w d M (x+1) :=
 { h with l:=fun k a c i e=>by obtain⟨b,f,g,j⟩:=h.l k a c i e;exact⟨b,f,g,by omega⟩,len:=by obtain⟨b,f,g⟩:=h.len;exact⟨by omega,by omega,by omega⟩ }
theorem cD.Yc{M:Mc}(h:cD H w d M x):H.heap[w]?=some (.cells M.cells.toArray 42):=by
 have:=h.sep.all (0,0);rw[h.w0]at this;exact this
theorem cD.ownX{M:Mc}(h:cD H w d M x):aB H M.hx (l5 46 (M.V.map (·.1))):=by have:=h.sep.all (1,0);rw[h.x]at this;exact this
theorem cD.ownM{M:Mc}(h:cD H w d M x):aB H M.hm (l5 47 (M.V.map (·.2.1))):=by have:=h.sep.all (2,0);rw[h.m]at this;exact this
theorem cD.ownR{M:Mc}(h:cD H w d M x):aB H M.hr (cW M.reg):=by have:=h.sep.all (3,0);rw[h.r]at this;exact this
theorem cD.ownL{M:Mc}(h:cD H w d M x):aB H M.hl (iW (M.L.map (fun l=>(l.1,l.2.2)))):=by have:=h.sep.all (4,0);rw[h.ls]at this;exact this
theorem cD.ownC{M:Mc}(h:cD H w d M x):aB H M.hc (iW (M.L.map (fun l=>(l.2.1,l.2.2)))):=by have:=h.sep.all (5,0);rw[h.lw]at this;exact this
theorem ox.grow(s:ox H d)(e:d y2=b8 L x5)(g:bt H D L zt)(o:aB D zt yu):ox D (ed d y2 (b8 zt yu)):=by
 refine s.put y2 _ (by rw[e];exact g.Yb) o (fun q a=>?_);have a:=aQ a;rcases g.Yc with b | ⟨f,b,c⟩
 ·left;rw[e];show q∈L.Yc.toList;rw[<-b,a];simp
 ·right;rw[b]at a;cases a;exact c
theorem ox.turn{a:List Value}(s:ox H d)(e:d y2=sQ w x yv)(g:ae [w] H D)(o:D.heap[w]?=some (.cells a.toArray x)):ox D (ed d y2 (sQ w x a)) :=
 s.put y2 _ (by rw[e];exact g) o (fun q b=>by rw[e];exact TZ b)
def jh(b:Nat)(I:Nat×Nat->It)(M:Mc)(N:Nat)(r:Bool)(e:Ending)(w':World):Prop:=e=returned (bool r)/\∃I' M',cD w' b I' M' (N+1)/\sC I M I' M'
theorem cD.turn0{M M':Mc}(h:cD H w d M x)(e:(M'.hx=M.hx/\M'.hm=M.hm/\M'.hr=M.hr/\M'.hl=M.hl/\M'.hc=M.hc)/\M'.V=M.V/\M'.reg=M.reg/\M'.L=M.L)(k:ae [w] H D)(o:D.heap[w]?=some (.cells M'.cells.toArray 42))(B:rk M'.a/\rk M'.n/\rk M'.e):cD D w (ed d (0,0) (sQ w 42 M'.cells)) M' x:=by
 obtain⟨⟨s,t,u,y,z⟩,c,j,f⟩:=e;have q:∀a i,a≠0->ed d (0,0) (sQ w 42 M'.cells) (a,i)=d (a,i):=fun a i A=>TA _ _ (bm A)
 exact {
  sep:=h.sep.turn h.w0 k o
  w0:=bC _ _ _
  x:=by rw[q 1 0 (by decide),s,c];exact h.x
  m:=by rw[q 2 0 (by decide),t,c];exact h.m
  r:=by rw[q 3 0 (by decide),u,j];exact h.r
  ls:=by rw[q 4 0 (by decide),y,f];exact h.ls
  lw:=by rw[q 5 0 (by decide),z,f];exact h.lw
  v:=fun i g m p b=>by rw[q 6 i (by decide),q 7 i (by decide)];rw[c]at b;exact h.v i g m p b
  l:=fun i g m p b=>by rw[q 8 i (by decide),q 9 i (by decide)];rw[f]at b;exact h.l i g m p b
  fit:=by rw[j];exact h.fit
  len:=by rw[c,j,f];exact h.len
  rng:=B }
theorem cD.boxed{M:Mc}(h:cD H w d M x)(k a c b:Int)(s t:Xs)(W:World)(e:H.alloc (.cells #[int i64 k,int i64 a,int i64 c,int i64 b,string s,string t] 28)=W) :
  cD W w d M x/\W.heap[H.heap.size]?=some (.cells #[int i64 k,int i64 a,int i64 c,int i64 b,string s,string t] 28)/\w<H.heap.size/\ae [] H W:=by
 have f:ae [] H W:=by rw[<-e];exact kr0.alloc _
 exact⟨h.XR f,by rw[<-e];exact TN _ _,aj h.Yc,f⟩
theorem du{a c d:Int}(h:H.heap[w]?=some (.cells #[int i64 yd,int i64 a,int i64 c,int i64 d,string z3,string z4] 28)) :
  H.cell? ⟨w,0,none⟩=some (int i64 yd)/\H.cell? ⟨w,1,none⟩=some (int i64 a)/\H.cell? ⟨w,2,none⟩=some (int i64 c)/\H.cell? ⟨w,3,none⟩=some (int i64 d)/\H.cell? ⟨w,4,none⟩=some (string z3)/\H.cell? ⟨w,5,none⟩=some (string z4)/\w<H.heap.size:=by
 refine⟨?_,?_,?_,?_,?_,?_,aj h⟩ <;> (rw[ah h];rfl)
theorem Rs(M:Mc)(A C D:Int)(s t:Xs)(w:World)(h:cD w b g M T)(l:rk A)(m:rk C)(p:rk D) :
  Calls prog 12 #[pointer (some ⟨b,0,none⟩),agg #[int i64 7,int i64 A,int i64 C,int i64 D,string s,string t]] w fun e u=>jh b g M T true e u:=by
 obtain⟨W,d⟩:=bq (w.alloc (.cells #[int i64 7,int i64 A,int i64 C,int i64 D,string s,string t] 28));obtain⟨c,f,q,-⟩:=h.boxed 7 A C D s t W d.o;obtain⟨B,E,F,G,H,I,J⟩:=du f;have v:W.cell? ⟨b,5,none⟩=some (int i64 M.a):=by rw[ah c.Yc];rfl
 have x:W.cell? ⟨b,6,none⟩=some (int i64 M.n):=by rw[ah c.Yc];rfl
 have y:W.cell? ⟨b,7,none⟩=some (int i64 M.e):=by rw[ah c.Yc];rfl
 have z:=am c.Yc;have k:Xr (cD (((W.setCell ⟨b,5,none⟩ (int i64 A)).setCell ⟨b,6,none⟩ (int i64 C)).setCell ⟨b,7,none⟩ (int i64 D)) b _ { M with a:=A,n:=C,e:=D } T) :=
  c.turn0 (M':={ M with a:=A,n:=C,e:=D }) ⟨⟨rfl,rfl,rfl,rfl,rfl⟩,rfl,rfl,rfl⟩ ((((ae.refl [b] _).sl1 _).sl1 _).sl1 _) (by rw[ab (ab (ab c.Yc 5 _) 6 _) 7 _];rfl) ⟨l,m,p⟩
 clear h c f;go_enter func12,ntmps12;go_upto_region 1 with fail
 rw[d.o];go_wp2;go_ret;exact⟨rfl,_,_,k.o.more,⟨fun j i r=>pS (by decide) r,rfl,rfl⟩⟩
theorem PC(M:Mc)(A C D:Int)(s t:Xs)(w:World)(h:cD w b g M T) :
  Calls prog 12 #[pointer (some ⟨b,0,none⟩),agg #[int i64 16,int i64 A,int i64 C,int i64 D,string s,string t]] w fun e m=>jh b g M T true e m:=by
 obtain⟨W,c⟩:=bq (w.alloc (.cells #[int i64 16,int i64 A,int i64 C,int i64 D,string s,string t] 28));obtain⟨a,d,k,-⟩:=h.boxed 16 A C D s t W c.o;obtain⟨q,r,v,x,y,z,B⟩:=du d;have p:=am a.Yc;have n:W.cell? ⟨b,8,none⟩=some (int i64 M.u):=by rw[ah a.Yc];rfl
 have f:Xr (cD (W.setCell ⟨b,8,none⟩ (int i64 A)) b _ { M with u:=A } T) :=
  a.turn0 (M':={ M with u:=A }) ⟨⟨rfl,rfl,rfl,rfl,rfl⟩,rfl,rfl,rfl⟩ ((ae.refl [b] _).sl1 _) (by rw[ab a.Yc 8 _];rfl) a.rng
 clear h a d;go_enter func12,ntmps12;go_upto_region 1 with fail
 rw[c.o];go_wp2;go_ret;exact⟨rfl,_,_,f.o.more,⟨fun j i l=>pS (by decide) l,rfl,rfl⟩⟩
theorem PD(M:Mc)(A C D:Int)(s t:Xs)(w:World)(h:cD w b g M T)(k:M.qv=slice none 0 0) :
  Calls prog 12 #[pointer (some ⟨b,0,none⟩),agg #[int i64 17,int i64 A,int i64 C,int i64 D,string s,string t]] w fun e l=>jh b g M T true e l:=by
 obtain⟨W,c⟩:=bq (w.alloc (.cells #[int i64 17,int i64 A,int i64 C,int i64 D,string s,string t] 28));obtain⟨a,d,j,-⟩:=h.boxed 17 A C D s t W c.o;obtain⟨m,n,p,q,r,u,v⟩:=du d;have i:W.cell? ⟨b,15,none⟩=some (slice none 0 0):=by rw[ah a.Yc,<-k];rfl
 have f:Xr (cD W b g M T):=a;clear h a d;go_enter func12,ntmps12;go_upto_region 1 with fail
 rw[c.o];go_wp2;go_ret;exact⟨rfl,_,_,f.o.more,sC.refl _ _⟩
theorem lW(M:Mc)(k A C D:Int)(s t:Xs)(w:World)(h:cD w b g M T)(n:(8<=k/\k<=14)∨19<=k) :
  Calls prog 12 #[pointer (some ⟨b,0,none⟩),agg #[int i64 k,int i64 A,int i64 C,int i64 D,string s,string t]] w fun e x=>e=returned (bool false)/\ae [] w x:=by
 obtain⟨W,d⟩:=bq (w.alloc (.cells #[int i64 k,int i64 A,int i64 C,int i64 D,string s,string t] 28));obtain⟨j,f,l,c⟩:=h.boxed k A C D s t W d.o;obtain⟨I,-⟩:=du f;have i:Xr (ae [] w W):=c;have a:∀m:Int,(k=m->False)->(k==m)=false:=fun m p=>Ui.2 p;have y:=a 1 (by omega);have z:=a 2 (by omega);have B:=a 3 (by omega);have E:=a 4 (by omega);have F:=a 5 (by omega);have G:=a 6 (by omega);have H:=a 7 (by omega);have q:=a 15 (by omega);have r:=a 16 (by omega);have u:=a 17 (by omega);have v:=a 18 (by omega);clear h j f a n c;go_enter func12,ntmps12;go_upto_region 1 with fail
 rw[d.o];go_wp2;go_ret;exact⟨rfl,i.o⟩
theorem PB(M:Mc)(A C D:Int)(s t:Xs)(w:World)(h:cD w b g M T) :
  Calls prog 12 #[pointer (some ⟨b,0,none⟩),agg #[int i64 15,int i64 A,int i64 C,int i64 D,string s,string t]] w fun e z=>jh b g M T true e z:=by
 obtain⟨W,c⟩:=bq (w.alloc (.cells #[int i64 15,int i64 A,int i64 C,int i64 D,string s,string t] 28));obtain⟨a,d,x,-⟩:=h.boxed 15 A C D s t W c.o;obtain⟨G,H,I,J,K,L,N⟩:=du d;have F:=am a.Yc;have B:W.cell? ⟨b,8,none⟩=some (int i64 M.u):=by rw[ah a.Yc];rfl
 have E:W.cell? ⟨b,9,none⟩=some (string M.s):=by rw[ah a.Yc];rfl
 have l:W.cell? ⟨b,10,none⟩=some (int i64 M.p):=by rw[ah a.Yc];rfl
 have m:W.cell? ⟨b,11,none⟩=some (int i64 M.q):=by rw[ah a.Yc];rfl
 have n:W.cell? ⟨b,12,none⟩=some (string M.f):=by rw[ah a.Yc];rfl
 have r:W.cell? ⟨b,13,none⟩=some (int i64 M.i):=by rw[ah a.Yc];rfl
 have v:W.cell? ⟨b,14,none⟩=some (int i64 M.j):=by rw[ah a.Yc];rfl
 have k:Xr (cD (((((((W.setCell ⟨b,9,none⟩ (string s)).setCell ⟨b,10,none⟩ (int i64 A)).setCell ⟨b,11,none⟩ (int i64 C)).setCell ⟨b,12,none⟩ (string t)).setCell ⟨b,13,none⟩ (int i64 D)).setCell ⟨b,14,none⟩ (int i64 M.u)).drew) b _ { M with s:=s,p:=A,q:=C,f:=t,i:=D,j:=M.u } T) :=
  (a.turn0 (M':={ M with s:=s,p:=A,q:=C,f:=t,i:=D,j:=M.u }) ⟨⟨rfl,rfl,rfl,rfl,rfl⟩,rfl,rfl,rfl⟩ ((((((((ae.refl [b] _).sl1 _).sl1 _).sl1 _).sl1 _).sl1 _).sl1 _)) (by rw[ab (ab (ab (ab (ab (ab a.Yc 9 _) 10 _) 11 _) 12 _) 13 _) 14 _];rfl) a.rng).XR kr0.drew
 clear h a d;go_enter func12,ntmps12;go_upto_region 1 with fail
 rw[c.o];go_upto_region 38 with fail
 go_region
 all_goals go_wp2
 all_goals go_ret
 all_goals exact⟨rfl,_,_,k.o.more,⟨fun j i y=>pS (by decide) y,rfl,rfl⟩⟩
theorem cD.clear{M:Mc}(h:cD H w d M x)(k:ae [w] H D)(o:D.heap[w]?=some (.cells ({ M with hr:=⟨none,0⟩,reg:=[] }:Mc).cells.toArray 42)):∃g,cD D w g { M with hr:=⟨none,0⟩,reg:=[] } x/\sC d M g { M with hr:=⟨none,0⟩,reg:=[] }:=by
 have y:=h.sep.turn h.w0 k o;have z:=y.put (3,0) (b8 ⟨none,0⟩ (cW [])) ((ae.refl _ D).mono (fun _ u _=>u)) (TQ _ _ _ _) (fun q t=>by cases t);refine⟨ed (ed d (0,0) (sQ w 42 ({ M with hr:=⟨none,0⟩,reg:=[] }:Mc).cells)) (3,0) (b8 ⟨none,0⟩ (cW [])),?_,?_⟩
 rotate_left
 ·exact⟨fun j i s=>by(repeat rw[pS (by decide) s]),rfl,rfl⟩
 have q:∀a i,a≠0->a≠3->(ed (ed d (0,0) (sQ w 42 ({ M with hr:=⟨none,0⟩,reg:=[] }:Mc).cells)) (3,0) (b8 ⟨none,0⟩ (cW []))) (a,i)=d (a,i):=fun a i n p=>by rw[TA _ _ (bm p),TA _ _ (bm n)]
 exact {
  sep:=z
  w0:=by rw[TA _ _ (bm (by decide))];exact bC _ _ _
  x:=by rw[q 1 0 (by decide) (by decide)];exact h.x
  m:=by rw[q 2 0 (by decide) (by decide)];exact h.m
  r:=bC _ _ _
  ls:=by rw[q 4 0 (by decide) (by decide)];exact h.ls
  lw:=by rw[q 5 0 (by decide) (by decide)];exact h.lw
  v:=fun i c m e f=>by rw[q 6 i (by decide) (by decide),q 7 i (by decide) (by decide)];exact h.v i c m e f
  l:=fun i c m e f=>by rw[q 8 i (by decide) (by decide),q 9 i (by decide) (by decide)];exact h.l i c m e f
  fit:=fun j=>⟨by show(0:Nat)<=_;omega,by show(0:Nat)<=_;omega⟩
  len:=⟨h.len.1,Up _,h.len.2.2⟩
  rng:=h.rng }
theorem Ro(b N:Nat)(I:Nat×Nat->It)(M:Mc)(A C D:Int)(s t:Xs)(w:World)(h:cD w b I M N) :
  Calls prog 12 #[pointer (some ⟨b,0,none⟩),agg #[int i64 3,int i64 A,int i64 C,int i64 D,string s,string t]] w fun e m=>jh b I M N true e m:=by
 obtain⟨W,f⟩:=bq (w.alloc (.cells #[int i64 3,int i64 A,int i64 C,int i64 D,string s,string t] 28));obtain⟨a,g,k,-⟩:=h.boxed 3 A C D s t W f.o;obtain⟨q,r,u,v,x,y,z⟩:=du g;have p:=am a.Yc;have n:W.cell? ⟨b,2,none⟩=some (slice M.hr.ao M.reg.length M.hr.cap):=by rw[ah a.Yc];rfl
 have i:Xr (∃c,cD (W.setCell ⟨b,2,none⟩ (slice none 0 0)) b c { M with hr:=⟨none,0⟩,reg:=[] } N/\sC I M c { M with hr:=⟨none,0⟩,reg:=[] }) :=
  a.clear ((ae.refl [b] _).sl1 _) (by rw[ab a.Yc 2 _];rfl)
 clear h a g;go_enter func12,ntmps12;go_upto_region 1 with fail
 rw[f.o];go_wp2;go_ret;obtain⟨c,j,d⟩:=i.o;exact⟨rfl,c,_,j.more,d⟩
theorem dx{c:List Oper}(G:y0.guard=none)(s x:Operand)(t:TypeId)(p:y0.op=Op.call { callee:=Callee.builtin Builtin.append,args:=#[s,x],argTypes:=#[t,t] })(i:TypeInfo)(z:Value)(b:Nat)(h:Hd)(r:eQ)(a:List Value)(v:y3.underlying t=some (.slice r.e))(w:y3.info? r.e=some i)(y:i.zero=some z)(A:i.size=r.size)(B:i.bytes=b)(C:z.cells.size=r.size)(D:0<r.size)(J:y5.eval s=slice h.ao r.n h.cap)(d:aB S h r)(P:r.n<=4294967296)(F:b<=1000)(L:y5.eval x=slice (some ⟨S.heap.size,0,none⟩) 1 1)(Q:a.length=r.size)(l:∀u∈a,u.oneCell'=true)(E:∀k g,aB g k ⟨r.e,r.size,r.n+1,r.xs++a⟩->bt S g h k->wpList y3 yy yz c (y5.put y0.dst (slice k.ao (r.n+1) k.cap)) g) :
  wpList y3 yy yz (y0 :: c) y5 (S.alloc (.cells a.toArray r.e)):=by
 have q:ae [] S (S.alloc (.cells a.toArray r.e)):=kr0.alloc _;have I:(S.alloc (.cells a.toArray r.e)).heap[S.heap.size]?=some (.cells a.toArray r.e):=TN _ _;obtain⟨o,g,f,M,N⟩:=qx (P:=y3) (S.alloc (.cells a.toArray r.e)) t y0.type i z b h r v w y A B C D (d.XR q) (some ⟨S.heap.size,0,none⟩) 1 1 a (by omega) (fun e=>by cases e) (fun O e j u H=>by cases e;rw[bX,ah I];simpa using H) l (by unfold maxLen;omega) (TV (VZ (show r.n+1<=4294967297 by omega) F) (by omega));refine wpList_plain G fun K m=>?_;unfold Oper.wp;simp[execOp,p,resolve,invoke,builtin,J,L,f,Result.andThen];exact m _ _ (E o g M ((bt.XR q).trans N))
theorem vB{K:Act->World->Prop}{E:Prop}(G:y0.guard=none)(s x:Operand)(t:TypeId)(o:y0.op=Op.call { callee:=Callee.builtin Builtin.append,args:=#[s,x],argTypes:=#[t,t] })(i:TypeInfo)(z:Value)(b:Nat)(h:Hd)(r:eQ)(a:List Value)(q:y3.underlying t=some (.slice r.e))(v:y3.info? r.e=some i)(w:i.zero=some z)(y:i.size=r.size)(A:i.bytes=b)(B:z.cells.size=r.size)(C:0<r.size)(J:y5.eval s=slice h.ao r.n h.cap)(g:aB S h r)(Q:r.n<=4294967296)(F:b<=1000)(M:y5.eval x=slice (some ⟨S.heap.size,0,none⟩) 1 1)(R:a.length=r.size)(m:∀u∈a,u.oneCell'=true)(D:∀d c l,aB l ⟨d,c⟩ ⟨r.e,r.size,r.n+1,r.xs++a⟩->bt S l h ⟨d,c⟩->K (y5.put y0.dst (slice d (r.n+1) c)) l) :
  if Region.wanted y0 (yielded yy y5.tmps)=true then Oper.wp y3 y0 y5 (S.alloc (.cells a.toArray r.e)).drew K yz else E:=by
 have p:ae [] S (S.alloc (.cells a.toArray r.e)).drew:=(kr0.alloc _).drew;have I:(S.alloc (.cells a.toArray r.e)).drew.heap[S.heap.size]?=some (.cells a.toArray r.e):=TN _ _;obtain⟨f,l,k,N,O⟩:=qx (P:=y3) (S.alloc (.cells a.toArray r.e)).drew t y0.type i z b h r q v w y A B C (g.XR p) (some ⟨S.heap.size,0,none⟩) 1 1 a (by omega) (fun e=>by cases e) (fun P e j u H=>by cases e;rw[bX,ah I];simpa using H) m (by unfold maxLen;omega) (TV (VZ (show r.n+1<=4294967297 by omega) F) (by omega));have L:Region.wanted y0 (yielded yy y5.tmps)=true:=by simp[Region.wanted,G]
 rw[TJ L];unfold Oper.wp;simp[execOp,o,resolve,invoke,builtin,J,M,k,Result.andThen];exact D f.ao f.cap l N ((bt.XR p).trans O)
theorem ox.grown(s:ox H d)(f:d (0,0)=sQ w x yv)(i:y2≠(0,0))(e:d y2=b8 L x5)(g:bt H D L zt)(o:aB D zt yu)(j:Nat)(v:Value) :
  ox (D.setCell ⟨w,j,none⟩ v) (ed (ed d y2 (b8 zt yu)) (0,0) (sQ w x (yv.set j v))):=by
 have c:=s.grow e g o;have a:ed d y2 (b8 zt yu) (0,0)=sQ w x yv:=by rw[TA _ _ (Ne.symm i)];exact f
 refine c.turn a ((ae.refl [w] _).sl1 _) ?_;have b:=c.all (0,0);rw[a]at b;rw[ab (show D.heap[w]?=some (.cells yv.toArray x) from b) j v,UH]
theorem Lc(f:Xs×Xs):∀u∈QJ f,u.oneCell'=true:=by
 intro u a;simp only[QJ,List.mem_cons,List.not_mem_nil,or_false]at a;rcases a with rfl | rfl <;> rfl
theorem Bi(h:mm i)(b:z3.size<=1073741824)(a:z4.size<=1073741824):mm (i++[(z3,z4)]):=by
 intro j;have:=h j;unfold aG ak at *;rw[TG]at *;by_cases e:j<i.length
 ·rw[Uf e];exact this
 ·rw[Ua (by omega)];cases c:j-i.length with
  | zero=>exact⟨b,a⟩
  | succ q=>exact⟨by show(0:Nat)<=_;omega,by show(0:Nat)<=_;omega⟩
theorem cD.addR{M:Mc}(h:cD H w d M x)(g:bt H D M.hr L)(o:aB D L (cW (M.reg++[(z3,z4)])))(y:z3.size<=1073741824)(t:z4.size<=1073741824):∃k n,cD (D.setCell ⟨w,2,none⟩ (slice L.ao (M.reg.length+1) L.cap)) w k n (x+1)/\sC d M k n:=by
 have z:=h.sep.grown h.w0 (bm (by decide)) h.r g o 2 (slice L.ao (M.reg.length+1) L.cap);refine⟨ed (ed d (3,0) (b8 L (cW (M.reg++[(z3,z4)])))) (0,0) (sQ w 42 (M.cells.set 2 (slice L.ao (M.reg.length+1) L.cap))),{ M with hr:=L,reg:=M.reg++[(z3,z4)] },?_,?_⟩
 rotate_left
 ·exact⟨fun j i u=>by(repeat rw[pS (by decide) u]),rfl,rfl⟩
 have q:∀a i,a≠0->a≠3->(ed (ed d (3,0) (b8 L (cW (M.reg++[(z3,z4)])))) (0,0) (sQ w 42 (M.cells.set 2 (slice L.ao (M.reg.length+1) L.cap)))) (a,i)=d (a,i):=fun a i p s=>by rw[TA _ _ (bm p),TA _ _ (bm s)]
 have e:=h.more
 exact {
  sep:=z
  w0:=by rw[bC];unfold Mc.cells;rw[TO];rfl
  x:=by rw[q 1 0 (by decide) (by decide)];exact h.x
  m:=by rw[q 2 0 (by decide) (by decide)];exact h.m
  r:=by rw[TA _ _ (bm (by decide))];exact bC _ _ _
  ls:=by rw[q 4 0 (by decide) (by decide)];exact h.ls
  lw:=by rw[q 5 0 (by decide) (by decide)];exact h.lw
  v:=fun i b m c f=>by rw[q 6 i (by decide) (by decide),q 7 i (by decide) (by decide)];exact h.v i b m c f
  l:=fun i b m c f=>by rw[q 8 i (by decide) (by decide),q 9 i (by decide) (by decide)];exact e.l i b m c f
  fit:=Bi h.fit y t
  len:=⟨e.len.1,by have:=h.len.2.1;show(M.reg++[(z3,z4)]).length<=_;rw[TO];show _+1<=_;omega,e.len.2.2⟩
  rng:=h.rng }
theorem Rn(M:Mc)(A C D:Int)(s t:Xs)(w:World)(h:cD w b g M T)(X:T<=1073741824)(L:s.size<=1073741824)(N:t.size<=1073741824) :
  Calls prog 12 #[pointer (some ⟨b,0,none⟩),agg #[int i64 2,int i64 A,int i64 C,int i64 D,string s,string t]] w fun e P=>jh b g M T true e P:=by
 obtain⟨W,x⟩:=bq (w.alloc (.cells #[int i64 2,int i64 A,int i64 C,int i64 D,string s,string t] 28));obtain⟨a,z,J,-⟩:=h.boxed 2 A C D s t W x.o;obtain⟨Y,Z,o2,o3,o4,o5,oz⟩:=du z;obtain⟨O,q,j,k,l⟩:=Ul Bp;have R:=aj a.Yc;have S:W.cell? ⟨b,2,none⟩=some (slice M.hr.ao M.reg.length M.hr.cap):=by rw[ah a.Yc];rfl
 have v:Xr (cD W b g M T):=a;have m:=a.ownR;have p:Xr ((cW M.reg).n<=4294967296):=by show M.reg.length<=_;have:=h.len.2.1;omega
 have d:Xr ((cW M.reg).n=M.reg.length):=rfl;have c:Xr (b∉M.hr.Yc.toList):=fun K=>a.sep.far (0,0) (3,0) (bm (by decide)) b (by rw[a.w0];exact T0.2 rfl) (by rw[a.r];exact K);clear h a z;go_enter func12,ntmps12;go_upto_region 1 with fail
 rw[x.o];go_upto_region 9 with fail
 go_region_law (refine vB W rfl (.tmp 51) (.tmp 57) 33 rfl O (agg #[string ⟨#[]⟩,string ⟨#[]⟩]) 32 M.hr (cW M.reg) (QJ (s,t)) underlying33 q j k l rfl Xo (by rw[d.o];simp[Act.eval]) m p.o (by omega) (by simp[Act.eval]) rfl (Lc (s,t)) ?_;intro G y Q i f;have u:=f.Yb.get v.o.Yc c.o;have V:=am u 2;have U:Q.cell? ⟨b,2,none⟩=some (slice M.hr.ao M.reg.length M.hr.cap):=(by rw[ah u];rfl);have z5:=aj u)
 all_goals
  rw[yx]at i;have B:Xr _:=v.o.addR f i L N;rw[d.o];go_wp2;go_ret;obtain⟨E,F,H,I⟩:=B.o;exact⟨rfl,E,F,H,I⟩
theorem Re:(prog.info? 46).map (fun i=>(i.zero,i.size,i.bytes))=some (some (pointer none),1,8):=by kernel_rfl
theorem Rd:(prog.info? 47).map (fun i=>(i.zero,i.size,i.bytes))=some (some (pointer none),1,8):=by kernel_rfl
theorem An(L:Xv)(x:Nat):(⟨(l5 T L).e,(l5 T L).size,(l5 T L).n+1,(l5 T L).xs++[Qb x]⟩:eQ)=l5 T (L++[x]):=by
 simp[l5]
theorem cD.addV{J:Nat×Nat->It}{M:Mc}(h:cD H w d M x)(b:J=ed (ed d (6,M.V.length) (Ri o [] 0 0 none)) (7,M.V.length) (Rh y9 ⟨none,0⟩ [] 0 0 none))(q:ox D (ed (ed (ed (ed J (1,0) (b8 L (l5 46 (M.V.map (·.1)++[o])))) (0,0) (sQ w 42 (M.cells.set 0 (slice L.ao (M.V.length+1) L.cap)))) (2,0) (b8 zt (l5 47 (M.V.map (·.2.1)++[y9])))) (0,0) (sQ w 42 ((M.cells.set 0 (slice L.ao (M.V.length+1) L.cap)).set 1 (slice zt.ao (M.V.length+1) zt.cap))))) :
  ∃k n,cD D w k n (x+1)/\sC d M k n:=by
 refine⟨_,{ M with hx:=L,hm:=zt,V:=M.V++[(o,y9,[])] },⟨q,?_,?_,?_,?_,?_,?_,?_,?_,?_,?_,?_⟩,?_⟩
 ·rw[bC];unfold Mc.cells;rw[TO];rfl
 ·rw[TA _ _ (bm (by decide)),TA _ _ (bm (by decide)),TA _ _ (bm (by decide)),bC,Uu];rfl
 ·rw[TA _ _ (bm (by decide)),bC,Uu];rfl
 ·subst b;simp only[ed];exact h.r
 ·subst b;simp only[ed];exact h.ls
 ·subst b;simp only[ed];exact h.lw
 ·intro i f m c a;rw[TA _ _ (bm (by decide)),TA _ _ (bm (by decide)),TA _ _ (bm (by decide)),TA _ _ (bm (by decide)),TA _ _ (bm (by decide)),TA _ _ (bm (by decide)),TA _ _ (bm (by decide)),TA _ _ (bm (by decide))];replace a:(M.V++[(o,y9,[])])[i]?=some (f,m,c):=a;subst b;by_cases e:i<M.V.length
  ·rw[Uf e]at a;rw[TA _ _ (bm (by decide)),TA _ _ (vg (by omega)),TA _ _ (vg (by omega)),TA _ _ (bm (by decide))];exact h.v i f m c a
  ·have p:i=M.V.length:=by
    have:=(TT.1 a).1;rw[TO]at this;have:i<M.V.length+1:=this;omega
   subst p;rw[Ua (TI _),UM]at a;cases a
   rw[TA _ _ (bm (by decide)),bC,bC];exact⟨⟨none,⟨none,0⟩,0,0,0,0,rfl,rfl⟩,fun j g=>by cases g⟩
 ·intro i f m c a;subst b;simp only[ed];exact h.more.l i f m c a
 ·exact h.fit
 ·refine⟨?_,h.more.len.2.1,h.more.len.2.2⟩;have:=h.len.1
  show(M.V++[(o,y9,[])]).length<=_
  rw[TO];show _+1<=_;omega
 ·exact h.rng
 ·subst b;exact⟨fun j i g=>by(repeat rw[pS (by decide) g]),rfl,rfl⟩
theorem Rm(M:Mc)(A C D:Int)(s t:Xs)(w:World)(h:cD w b g M T)(hN:T<=1073741824) :
  Calls prog 12 #[pointer (some ⟨b,0,none⟩),agg #[int i64 1,int i64 A,int i64 C,int i64 D,string s,string t]] w fun e w'=>jh b g M T true e w':=by
 obtain⟨W,HW⟩:=bq (w.alloc (.cells #[int i64 1,int i64 A,int i64 C,int i64 D,string s,string t] 28));obtain⟨hM,hB,av,-⟩:=h.boxed 1 A C D s t W HW.o;obtain⟨o0,-⟩:=du hB;obtain⟨iX,ar,P,Q,R⟩:=Ul Re;obtain⟨iM,ap,L,N,O⟩:=Ul Rd;have u:Xr (cD W b g M T):=hM;have an:Xr ((l5 46 (M.V.map (·.1))).n<=4294967296):=by show(M.V.map _).length<=_;rw[Uh];have:=h.len.1;omega
 have al:Xr ((l5 47 (M.V.map (·.2.1))).n<=4294967296):=by show(M.V.map _).length<=_;rw[Uh];have:=h.len.1;omega
 have E:Xr ((l5 46 (M.V.map (·.1))).n=M.V.length):=Uh _;have z:Xr ((l5 47 (M.V.map (·.2.1))).n=M.V.length):=Uh _;clear h hM hB;go_enter func12,ntmps12;go_upto_region 1 with fail
 rw[HW.o];go_upto_region 5 with (go_at_call 28;refine TM (PJ W) ?_;rintro e U ⟨rfl,hX,k1⟩)
 have S1:Xr _:=u.o.sep.put (6,M.V.length) (Ri W.heap.size [] 0 0 none) (k1.mono (by simp)) ⟨Up _,hX⟩ (fun q l=>TU (by rcases Un.1 l with e | e;exact Nat.le_of_eq e.symm;exact absurd (oj.1 e).2 (WA _)));go_upto_region 6 with (go_at_call 29;refine TM (Ko U) ?_;rintro e w2 ⟨rfl,hY,k2⟩)
 have S2:Xr _:=(S1.o.put (7,M.V.length) (Rh U.heap.size ⟨none,0⟩ [] 0 0 none) (k2.mono (by simp)) ⟨Up _,_,_,_,hY⟩ (fun q l=>TU (by rcases Un.1 l with e | e;exact Nat.le_of_eq e.symm;exact absurd (oj.1 (show q∈iV 0 0 from e)).2 (WA _))));have a:Xr _:=(u.o.XR k1).XR k2;clear hX hY k1 k2;have c0:w2.cell? ⟨b,0,none⟩=some (slice M.hx.ao M.V.length M.hx.cap):=by rw[ah a.o.Yc];rfl
 have G:=a.o.ownX;have y:Xr (b∉M.hx.Yc.toList):=fun l=>a.o.sep.far (0,0) (1,0) (bm (by decide)) b (by rw[a.o.w0];exact T0.2 rfl) (by rw[a.o.x];exact l);obtain⟨J,r⟩:∃J,Xr (J=ed (ed g (6,M.V.length) (Ri W.heap.size [] 0 0 none)) (7,M.V.length) (Rh U.heap.size ⟨none,0⟩ [] 0 0 none)):=⟨_,rfl⟩
 rw[<-r.o]at S2;have af:Xr (J (0,0)=sQ b 42 M.cells):=cg (by rw[r.o,TA _ _ (bm (by decide)),TA _ _ (bm (by decide))];exact u.o.w0);have ag:Xr (J (1,0)=b8 M.hx (l5 46 (M.V.map (·.1)))):=cg (by rw[r.o,TA _ _ (bm (by decide)),TA _ _ (bm (by decide))];exact u.o.x);have ai:Xr (J (2,0)=b8 M.hm (l5 47 (M.V.map (·.2.1)))):=cg (by rw[r.o,TA _ _ (bm (by decide)),TA _ _ (bm (by decide))];exact u.o.m);obtain⟨X,B⟩:=bq (W.heap.size);obtain⟨Y,F⟩:=bq (U.heap.size);rw[B.o,F.o]at r;rw[B.o,F.o];go_upto_region 7 with (at_builtin;refine dx w2 rfl (.tmp 29) (.tmp 31) 31 rfl iX (pointer none) 8 M.hx (l5 46 (M.V.map (·.1))) [Qb X] underlying31 ar P Q R rfl Ug (by rw[E.o];simp[Act.eval]) G an.o (by omega) (by simp[Act.eval]) rfl (by simp[Qb,Value.oneCell']) ?_;intro c w5 p k;rw[An]at p;have S:=k.Yb.get a.o.Yc y.o;have f5:=am S;have c5:w5.cell? ⟨b,0,none⟩=some (slice M.hx.ao M.V.length M.hx.cap):=(by rw[ah S];rfl);have z5:=aj S)
 rw[E.o];have v:Xr _:=(S2.o.grown af.o (bm (by decide)) ag.o k p 0 (slice c.ao (M.V.length+1) c.cap));obtain⟨Z,ad⟩:=bq (w5.setCell ⟨b,0,none⟩ (slice c.ao (M.V.length+1) c.cap));rw[ad.o]at v ⊢;have d:Xr _:=bC (ed J (1,0) (b8 c (l5 46 (M.V.map (·.1)++[X])))) (0,0) (sQ b 42 (M.cells.set 0 (slice c.ao (M.V.length+1) c.cap)));obtain⟨J6,i⟩:=bq (ed (ed J (1,0) (b8 c (l5 46 (M.V.map (·.1)++[X])))) (0,0) (sQ b 42 (M.cells.set 0 (slice c.ao (M.V.length+1) c.cap))));have j:Xr (J6 (2,0)=b8 M.hm (l5 47 (M.V.map (·.2.1)))):=cg (by rw[<-i.o,TA _ _ (bm (by decide)),TA _ _ (bm (by decide))];exact ai.o);rw[i.o]at v d;have b6:Z.heap[b]?=some (.cells (M.cells.set 0 (slice c.ao (M.V.length+1) c.cap)).toArray 42):=by
  have:=v.o.all (0,0);rw[d.o]at this;exact this
 have ac:Xr _:=b6;have H:aB Z M.hm (l5 47 (M.V.map (·.2.1))):=by
  have:=v.o.all (2,0);rw[j.o]at this;exact this
 have f:Xr (b∉M.hm.Yc.toList):=fun l=>v.o.far (0,0) (2,0) (bm (by decide)) b (by rw[d.o];exact T0.2 rfl) (by rw[j.o];exact l);clear S f5 c5 z5 p k c0 G;have c1:Z.cell? ⟨b,1,none⟩=some (slice M.hm.ao M.V.length M.hm.cap):=by rw[ah b6];rfl
 clear b6;go_wp2_with (at_builtin;refine dx Z rfl (.tmp 39) (.tmp 41) 32 rfl iM (pointer none) 8 M.hm (l5 47 (M.V.map (·.2.1))) [Qb Y] underlying32 ap L N O rfl Ug (by rw[z.o];simp[Act.eval]) H al.o (by omega) (by simp[Act.eval]) rfl (by simp[Qb,Value.oneCell']) ?_;intro h7 w7 K I;rw[An]at K;have p7:=I.Yb.get ac.o f.o;have f7:=am p7;have c7:w7.cell? ⟨b,1,none⟩=some (slice M.hm.ao M.V.length M.hm.cap):=(by rw[ah p7];rfl);have z7:=aj p7;rw[z.o]);go_ret;have S7:=v.o.grown d.o (bm (by decide)) j.o I K 1 (slice h7.ao (M.V.length+1) h7.cap);rw[<-i.o]at S7;exact⟨rfl,u.o.addV r.o S7⟩
end Go.Proofs.YtnbhnocdhbcbcaaGreat

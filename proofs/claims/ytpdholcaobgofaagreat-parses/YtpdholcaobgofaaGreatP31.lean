import Derived.Deep.RegionHeld3
import Derived.Deep.RegionLaw
import Derived.Deep.CutRange
import Derived.Test.YtpdholcaobgofaaGreatP30
namespace Go.Proofs.YtpdholcaobgofaaGreat
open Go.RowKit Tryz
open Value IntKind Ending
set_option maxHeartbeats 0
variable{yf:Nat->Bool}{w H o y5:Nat}{g:List Tk}{y3:List j4}{u z1:Xr}{y6:List St}{y4:Nat->Hd}{f D:World}{y0:Xu}{i:Fs}{M:Option Nat}{I z3:Hd}{y7:Int}{d:Nat×Nat->It}{zf:Nat×Nat}{yv yg:eD}{yr:List Value}{zt:Program}{ys:Array Oper}{z4:Oper}{y1:Act}{yt:Exit->Act->World->Prop}(N:Nat)(y8:Fs)(q r:Xr)(y:Fs)(z2:Hd)(y2:Nat)(z0:List Tk)(c:List Sm)(b:Nat)(z6:Option Nat)(z8:Xr)(k:List j4)(p:Xt)(S:Nat)(yu y9 ya yd:Value)(x:World)(s:Nat×Nat->It)
def WU(RS:List j4)(lab:Xr)(a:Nat):Bool:=(bne (gi RS a).Zbk 0)&&((gi RS a).Zbz.toList==lab.toList)
def NA(RS:List j4)(lab:Xr):Option Nat:=(List.range RS.length).find? (WU RS lab)
theorem JW(c:H<w)(a:∀i,i<H->yf i=false)(h:yf H=true):(List.range w).find? yf=some H:=by
 rw[Zay];refine⟨h,H,by rw[YW];exact c,by rw[Zam],fun j b=>?_⟩;rw[Zam,a j b];rfl
theorem Rs(a:∀i,i<w->yf i=false):(List.range w).find? yf=none:=by
 rw[YD];intro i b;rw[a i (XI.1 b)];simp
theorem QL(a:x.heap[b]?=some (.cells #[yu,bool false,y9,ya,yd] 85)) :
  Calls prog 60 #[pointer (some ⟨b,0,none⟩),string z8] x fun e c=>e=returned (tuple #[int i64 0,int i64 7])/\c=x:=by
 obtain⟨-,d,-⟩:=nJ a;clear a;go_enter func60,ntmps60;go_wp2;exact XG (v:=tuple #[int i64 0,int i64 7]) (by simp[results,results60,go_sem]) rfl ⟨rfl,rfl⟩
def UD(RS:List j4)(lab:Xr)(w:World)(e:Ending)(w':World):Prop:=e=returned (tuple #[int i64 ((NA RS lab).getD 0:Nat),int i64 (if(NA RS lab).isSome=true then 0 else 8)])/\w'=w
set_option maxRecDepth 100000
theorem QK(v:x.heap[b]?=some (.cells #[y9,bool true,ya,yd,slice p k.length S] 85))(t:cW x p 6 lZ k)(J:k.length<=100000) :
  Calls prog 60 #[pointer (some ⟨b,0,none⟩),string z8] x fun e F=>UD k z8 x e F:=by
 obtain⟨-,O,-,-,P⟩:=nJ v;have w:=(show Xq (cW x p 6 lZ k) from t);clear v t;go_enter func60,ntmps60;go_wp2
 go_loopg [6] k.length (fun g i wr=>∃a:Nat,a<=k.length/\g=k.length-a/\i=int i64 a/\Xq (∀i,i<a->WU k z8 i=false)/\x=wr)
 ·exact⟨0,by omega,by omega,rfl,(fun i h=>by omega),rfl⟩
 obtain⟨a,I,H,rfl,f,rfl⟩:=hrel;rcases kn a k.length with ⟨c,B⟩ | ⟨c,-⟩
 ·have s:k[a]?=some (gi k a):=by unfold gi;rw[Xw,Xv c];rfl
  obtain⟨G,rfl,z,m⟩:=w.o a _ s;have q:=m 0 _ rfl;have y:=m 1 _ rfl;rw[YM]at q;have d:Xq (WU k z8 a=((bne (gi k a).Zbk 0)&&((gi k a).Zbz.toList==z8.toList))):=rfl;clear m s;generalize gi k a=r at *;obtain⟨D,E,N,L,M,K⟩:=r;simp only at d q y;cases n:(E != 0)
  ·have j:Xq (∀i,i<a+1->WU k z8 i=false):=fun i A=>by
    by_cases e:i=a
    ·rw[e,d.o,n];rfl
    ·exact f.o i (by omega)
   go_wp2;go_roundg (k.length-(a+1))
   ·exact⟨a+1,by omega,rfl,by go_num,j,rfl⟩
   omega
  ·cases u:(D.toList==z8.toList)
   ·have j:Xq (∀i,i<a+1->WU k z8 i=false):=fun i A=>by
     by_cases e:i=a
     ·rw[e,d.o,n,u];rfl
     ·exact f.o i (by omega)
    go_wp2;go_roundg (k.length-(a+1))
    ·exact⟨a+1,by omega,rfl,by go_num,j,rfl⟩
    omega
   ·have l:Xq (NA k z8=some a):=JW c f.o (by rw[d.o,n,u];rfl);go_wp2;exact XG (v:=tuple #[int i64 a,int i64 0]) (by simp[results,results60,go_sem]) rfl ⟨by rw[l.o];rfl,rfl⟩
 ·have e:a=k.length:=by omega
  subst e;have C:¬(k.length:Int)<k.length:=by omega
  have l:Xq (NA k z8=none):=Rs f.o;go_wp2;exact XG (v:=tuple #[int i64 0,int i64 8]) (by simp[results,results60,go_sem]) rfl ⟨by rw[l.o];rfl,rfl⟩
structure RwE(T:List Tk)(S:List Sm)(RS:List j4):Prop where
 len:RS.length=S.length
 yes:∀a,a<S.length->aG (ay S a).k=true->(bne (gi RS a).Zbk 0)=true/\(gi RS a).Zbz=bP T (ay S a)
 no:∀a,a<S.length->aG (ay S a).k=false->(bne (gi RS a).Zbk 0)=false
theorem jT.find{d:Db}(R:jT g d)(E:RwE g (aj g) y3)(b:Xr):NA y3 b=(lH d.Zbv b).map (bF (aj g)):=by
 have c:((List.range d.Zbv.length).filter (qi d.Zbv b)).map (bF (aj g))=(List.range (aj g).length).filter (WU y3 b):=by
  refine ud R.hel.len (fun j p h=>?_) (fun n f=>?_)
  ·unfold WU at h;simp only[Bool.and_eq_true]at h;cases a:aG (ay (aj g) j).k
   ·rw[E.no j p a]at h;cases h.1
   ·unfold aG at a;simp only[Bool.or_eq_true]at a;unfold pa;rcases a with a | a <;> rw[a] <;> simp
  ·obtain⟨s,r,o,q,-⟩:=R.get f;have e:=R.hel.at_ f;unfold qi WU;rw[r];simp only;have i:=(fQ o).2.2.2;cases a:aG (ay (aj g) (bF (aj g) n)).k
   ·rw[E.no _ e a];unfold aG at a;rw[i,a];simp
   ·obtain⟨l,m⟩:=E.yes _ e a;rw[l,m];unfold aG at a;rw[i,a,q];simp
 unfold NA lH;rw[E.len,<-List.head?_filter,<-c,List.head?_map,List.head?_filter]
theorem LE(P:List dV)(a:Xr)(t:Tk):∀(f k:Nat) (M:List Xs),(bne (si z0 c S P a t f k M).Zbk 0)=true/\(si z0 c S P a t f k M).Zbz=a:=by
 intro f
 induction f with
 | zero =>
  intro k M;unfold si BB
  repeat' split
  all_goals exact⟨rfl,rfl⟩
 | succ f b =>
  intro k M;unfold si
  repeat' split
  all_goals first
   | exact⟨rfl,rfl⟩
   | exact b _ _
theorem Fl(p:lF)(t:Tk):(bne (px z0 c S p t).Zbk 0)=true/\(px z0 c S p t).Zbz=bP z0 (ay c S):=by
 unfold px;split
 ·exact⟨rfl,rfl⟩
 ·split
  ·exact⟨rfl,rfl⟩
  ·exact LE z0 c S _ _ t _ _ _
theorem Dt:(aG (ay c S).k=true->(bne (rJ z0 c (Pv z0 c) S).Zbk 0)=true/\(rJ z0 c (Pv z0 c) S).Zbz=bP z0 (ay c S))/\(aG (ay c S).k=false->(bne (rJ z0 c (Pv z0 c) S).Zbk 0)=false):=by
 unfold rJ aG;cases a:Vx c S
 ·cases b:xF c S
  ·unfold Vx at a;unfold xF at b;rw[a,b];exact⟨(fun h=>by cases h),fun _=>rfl⟩
  ·unfold xF at b;rw[b,Za2];refine⟨fun _=>?_,fun h=>by cases h⟩;exact Fl z0 c S _ _
 ·unfold Vx at a;rw[a,ZV];exact⟨fun _=>⟨rfl,rfl⟩,fun h=>by cases h⟩
theorem sD.tell{S:List Sm}{j:List (lF×Hd)}(h:sD S j ((List.range S.length).map (rJ g S (Pv g S))) y3 S.length):RwE g S y3:=by
 have p:y3.length=S.length:=by rw[h.len,XZ,YW]
 have d:∀a,a<S.length->gi ((List.range S.length).map (rJ g S (Pv g S))) a=rJ g S (Pv g S) a:=fun a b=>by
  unfold gi;rw[Xw,Yi,Zp b];rfl
 have f:∀a,a<S.length->(gi y3 a).Zbz=(rJ g S (Pv g S) a).Zbz/\(bne (gi y3 a).Zbk 0)=(bne (rJ g S (Pv g S) a).Zbk 0):=fun a b=>by
  by_cases c:(gi ((List.range S.length).map (rJ g S (Pv g S))) a).Zbk=4/\zD S j ((List.range S.length).map (rJ g S (Pv g S))) a
  ·have e:=h.yes a b c.1 c.2;have k:=c.1;rw[d a b]at e k;rw[e];exact⟨rfl,by simp only;rw[k];rfl⟩
  ·rw[h.no a b c,d a b];exact⟨rfl,rfl⟩
 refine⟨p,fun a b i=>?_,fun a b i=>?_⟩
 ·obtain⟨l,m⟩:=f a b;obtain⟨n,o⟩:=(Dt g S a).1 i;exact⟨by rw[m];exact n,by rw[l];exact o⟩
 ·rw[(f a b).2];exact(Dt g S a).2 i
def yN(RS:List j4):List j4:=RS.filter (fun r=>bne r.Zbk 0)
theorem Tv(r:j4):∀u∈lZ r,u.oneCell'=true:=by
 intro u a;simp only[lZ,List.mem_cons,List.not_mem_nil,or_false]at a;rcases a with rfl | rfl | rfl | rfl | rfl | rfl <;> rfl
set_option maxRecDepth 512
theorem Pq(a:x.heap[S]?=some (.cells #[yu,bool false,y9,ya,yd] 85)) :
  Calls prog 21 #[pointer (some ⟨S,0,none⟩)] x fun e b=>e=returned (slice none 0 0)/\b=x:=by
 obtain⟨-,c,-⟩:=nJ a;clear a;go_enter func21,ntmps21;go_wp2;go_ret;exact⟨rfl,rfl⟩
def UJ(RS:List j4)(w:World)(e:Ending)(w':World):Prop:=∃h',e=returned (slice h'.ao (yN RS).length h'.cap)/\iG w w' h' (ie (yN RS))
set_option maxRecDepth 100000
theorem Pp(F:x.heap[b]?=some (.cells #[y9,bool true,ya,yd,slice p k.length S] 85))(O:cW x p 6 lZ k)(hl:k.length<=100000) :
  Calls prog 21 #[pointer (some ⟨b,0,none⟩)] x fun e w'=>UJ k x e w':=by
 obtain⟨-,v1,-⟩:=nJ F;have T:Xq _:=F;have R:=(show Xq (cW x p 6 lZ k) from O);have B:Xq (iG x x ⟨none,0⟩ (ie (yN (k.take 0)))):=⟨XE _ _ _ _,(by intro a P;cases P),aa.refl _ _⟩;obtain⟨iR,G,t,u,v⟩:=XV Mx;clear F O;go_enter func21,ntmps21;go_wp2;clear v1
 go_loopg [3,4] k.length (fun g o i wr=>∃(a:Nat) (d:Hd) (L:List j4),a<=k.length/\g=k.length-a/\o=slice d.ao L.length d.cap/\i=int i64 a/\L.length<=a/\Xq (L=yN (k.take a))/\Xq (iG x wr d (ie L)))
 ·exact⟨0,⟨none,0⟩,[],by omega,rfl,rfl,rfl,Xy _,rfl,B⟩
 obtain⟨a,d,L,P,hg,rfl,rfl,ac,w,m⟩:=hrel;have C:Xq _:=(m.o.Zbw.get T.o (by simp));obtain⟨-,-,-,-,v4⟩:=nJ C.o;rcases kn a k.length with ⟨j,af⟩ | ⟨j,-⟩
 ·obtain⟨g0,rfl,ad,f⟩:=(cW.Zbj R.o m.o.Zbw) a _ (Xv j);have N:=f 0 _ rfl;have U:=f 1 _ rfl;have V:=f 2 _ rfl;have W:=f 3 _ rfl;have X:=f 4 _ rfl;have Y:=f 5 _ rfl;rw[YM]at N;have c:Xq (yN (k.take (a+1))=L++(if(bne k[a].Zbk 0)=true then [k[a]] else [])):=by
   show _=_;rw[w.o];unfold yN;rw[Zap,Xv j,Yy];congr 1;cases h:(bne k[a].Zbk 0) <;> simp[h]
  clear f;generalize k[a]=r at *;obtain⟨J,y,M,I,K,H⟩:=r;simp only at c N U V W X Y;cases Q:(y != 0)
  ·have z:Xq (L=yN (k.take (a+1))):=(by show _=_;rw[c.o,Q,Xz (by simp),Ya]);go_wp2;go_roundg (k.length-(a+1))
   ·exact⟨a+1,d,L,by omega,rfl,rfl,by go_num,by omega,z,m⟩
   omega
  ·have z:Xq (L++[⟨J,y,M,I,K,H⟩]=yN (k.take (a+1))):=(by show _=_;rw[c.o,Q,XA rfl]);have D:=m.o.ZbH;have E:Xq ((ie L).n<=900000000):=(by show L.length<=_;omega);have q:Xq ((ie L).n=L.length):=rfl;go_wp2_with (at_builtin;refine cQ wr rfl (.tmp 28) (.tmp 36) 54 rfl iR (agg #[string ⟨#[]⟩,int i64 0,int i64 0,string ⟨#[]⟩,int i64 0,int i64 0]) 64 d (ie L) (lZ ⟨J,y,M,I,K,H⟩) underlying54 G t u v rfl (show 0<6 by omega) (by rw[q.o];simp[Act.eval]) D E.o (by omega) (by simp[Act.eval]) rfl (Tv _) ?_;intro Z w5 l s;rw[ie,fT]at l;have A:Xq _:=m.o.Zbt s l;clear l s);go_roundg (k.length-(a+1))
   ·exact⟨a+1,Z,L++[(⟨J,y,M,I,K,H⟩:j4)],by omega,rfl,by rw[q.o,XC];rfl,by go_num,by rw[XC];show _+1<=_;omega,z,A⟩
   omega
 ·have e:a=k.length:=by omega
  subst e;have ag:¬(k.length:Int)<k.length:=by omega
  rw[Yl]at w;go_wp2;go_ret;exact⟨d,by rw[<-w.o];rfl,by rw[<-w.o];exact m.o⟩
section
variable {T:List Tk}
theorem DZ(h:aG u=true):cD u=false:=by
 unfold aG at h;rw[Yo]at h;rcases h with h | h <;> exact iq h (by decide)
end
def Xj(L:List Rw)(n:Nat):Bool:=(qm L n==4)||(qm L n==5)
def Sj(x:oI):Option Nat:=if(x.Zby==2)=true then some x.Zbf else none
def VQ(l:List St)(n:Nat):Xu:=match l[n]? with
 | some s=>(lY l n s).1.filterMap Sj
 | none=>[]
section
variable {l:List St} {L:List Rw}
theorem zaU(h:H∈VQ l w):H<w:=by
 unfold VQ at h;split at h
 ·next s f =>
  obtain⟨x,d,e⟩:=ZaH.1 h;unfold Sj at e;split at e
  ·next a =>
   obtain⟨i,c,b⟩:=Yr d;have a:x.Zby=2:=(by simpa using a);rcases V7 l w s i x (by rw[Xv c,b]) with g | ⟨g,-⟩ | ⟨-,g⟩
   ·omega
   ·omega
   ·rw[<-Zaj e];exact zbZ g
  ·cases e
 ·cases h
def RP(l:List St)(L:List Rw)(a m:Nat):Prop:=∀P:Nat->Prop,P a->(∀t m:Nat,P t->Xj L t=true->m∈VQ l t->P m)->P m
theorem RP.step{t:Nat}(h:RP l L w t)(c:Xj L t=true)(d:H∈VQ l t):RP l L w H:=fun P b a=>a t H (h P b a) c d
theorem RP.le(h:RP l L w H):H<=w:=h (fun H=>H<=w) (Xy _) (fun t H b _ a=>by have:=zaU a;omega)
end
def jA(lo hi:Nat):Xu:=List.range' lo (hi-lo)
theorem pR:o∈jA w H ↔ w<=o/\o<H:=by
 unfold jA;rw[List.mem_range'_1];omega
def UsH(l:List St)(H:Nat->Hd)(q:Nat):Prop:=(H 6).Zbx=some q∨∃i s,l[i]?=some s/\((H (10+2*i)).Zbx=some q∨(H (11+2*i)).Zbx=some q)
theorem UsH.inH(h:UsH y6 y4 w):eG y4 w:=by
 rcases h with h | ⟨i,s,-,h | h⟩
 ·exact⟨6,h⟩
 ·exact⟨_,h⟩
 ·exact⟨_,h⟩
theorem iY.ltU(h:iY f y6 y4)(u:UsH y6 y4 w):w<f.heap.size:=by
 rcases u with u | ⟨i,s,a,u | u⟩
 ·exact h.ZbH.lt u
 ·exact(h.syms i s a).lt u
 ·exact(h.prfs i s a).lt u
theorem iY.keptU(h:iY f y6 y4)(k:aa y0 f D)(c:∀x,UsH y6 y4 x->x∉y0):iY D y6 y4 :=
 ⟨h.ZbH.Zbo (fun x a=>k.block x (h.ZbH.lt a) (c x (XQ a))),fun i s b=>(h.syms i s b).Zbo (fun x a=>k.block x ((h.syms i s b).lt a) (c x (XK ⟨i,s,b,XQ a⟩))),fun i s b=>(h.prfs i s b).Zbo (fun x a=>k.block x ((h.prfs i s b).lt a) (c x (XK ⟨i,s,b,XK a⟩)))⟩
def zcp(w:World)(x:Nat)(fs:Fs)(lo hi:Nat):Option Nat->Prop
 | none=>lD w x fs
 | some k=>(k<fs.length/\((gO fs k).1==0)=true)/\∃H g,sG w x fs (cK fs k).2.2.Zbv H g/\(lo<=g/\g<hi)/\∀q,UsH (cK fs k).2.2.Zbv H q->lo<=q/\q<hi
structure eM(w:World)(x:Nat)(fs:Fs)(lo hi:Nat)(st:Option Nat):Prop where
 z:hi<=w.heap.size
 s:zcp w x fs lo hi st
def zcm(w:World)(v:Nat)(fs:Fs)(h:Hd)(lo hi:Nat):Option Nat->Prop
 | none=>∃p2 p3 p4,gZ w v fs h false p2 p3 p4
 | some k=>Ce w v fs h (dd fs k).1 lo hi
structure dY(w:World)(v:Nat)(fs:Fs)(h:Hd)(lo hi:Nat)(st:Option Nat):Prop where
 z:hi<=w.heap.size
 s:zcm w v fs h lo hi st
theorem eM.anyS(a:eM f w i H o M):mP f w i:=by
 have:=a.s;cases M with
 | none=>exact lD.anyR this
 | some k=>obtain⟨-,b,g,h,-⟩:=this;exact h.anyR
theorem dY.anyS(a:dY f w i I H o M):∃b c d e,gZ f w i I b c d e:=by
 have:=a.s;cases M with
 | none=>exact⟨false,this⟩
 | some k=>exact⟨true,Ce.rvAt this⟩
theorem eM.Zbw(a:eM f w i H o M)(k:aa y0 f D)(c:∀q,q∈w :: jA H o->q∉y0):eM D w i H o M:=by
 refine⟨XF a.z k.size,?_⟩;have m:=c w Yg;have e:∀q,H<=q/\q<o->q∉y0:=fun q b=>c q (Yf _ (pR.2 b));have:=a.s;cases M with
 | none=>exact lD.Zbw this k m
 | some j =>
  obtain⟨t,n,g,h,d,l⟩:=this;obtain⟨p,v,r,u⟩:=h.ver;exact⟨t,n,g,⟨⟨p,v,r,bO.Zbw u k m⟩,h.Zbv.keptU k (fun q b=>e q (l q b)),k.get h.arr (e g d),h.far⟩,d,l⟩
theorem dY.Zbw(a:dY f w i I H o M)(k:aa y0 f D)(b:∀q,q∈w :: (I.Zbx.toList++jA H o)->q∉y0):dY D w i I H o M:=by
 refine⟨XF a.z k.size,?_⟩;have d:=b w Yg;have c:∀q,I.Zbx=some q->q∉y0:=fun q l=>b q (Yf _ (Yx _ (by rw[l];simp)));have m:∀q,H<=q->q<o->q∉y0:=fun q e g=>b q (Yf _ (YT _ (pR.2 ⟨e,g⟩)));have:=a.s;cases M with
 | none=>obtain⟨n,p,t,r⟩:=this;exact⟨n,p,t,r.keptS k d c⟩
 | some j=>exact Ce.Zbw this k d c m
theorem dY.Zbj(a:dY f w i I H o M)(k:aa [] f D):dY D w i I H o M:=a.Zbw k (fun _ _ b=>by cases b)
theorem eM.Zbj(a:eM f w i H o M)(k:aa [] f D):eM D w i H o M:=a.Zbw k (fun _ _ b=>by cases b)
theorem eM.lt(a:eM f w i H o M)(q:Nat)(b:q∈w :: jA H o):q<f.heap.size:=by
 rcases Yd.1 b with e | e
 ·rw[e];exact a.anyS.lt
 ·have:=pR.1 e;have:=a.z;omega
theorem dY.lt{h:Hd}(a:dY f w i h H o M)(q:Nat)(b:q∈w :: (h.Zbx.toList++jA H o)):q<f.heap.size:=by
 obtain⟨c,g,j,k,r⟩:=a.anyS;rcases Yd.1 b with e | e
 ·rw[e];exact ah r.d
 ·rcases X9.1 e with e | e
  ·exact r.ZbH.lt (aX e)
  ·have:=pR.1 e;have:=a.z;omega
theorem eM.same(a:eM f w i H o M):∃b l m n,j6 f w i b l m n/\∀c,j6 c w i b l m n->aa [w] f c->eM c w i H o M:=by
 have h:=a.s;cases M with
 | none=>exact⟨_,_,_,_,h,fun c d k=>⟨XF a.z k.size,d⟩⟩
 | some j =>
  obtain⟨v,p,g,r,x,A⟩:=h;obtain⟨t,B,u,d⟩:=r.ver;refine⟨_,_,_,_,d,fun c e k=>⟨XF a.z k.size,v,p,g,⟨⟨t,B,u,e⟩,r.Zbv.keptU k (fun q y=>by simp;exact r.far.2 q y.inH),k.get r.arr (by simp;exact Ne.symm r.far.1),r.far⟩,x,A⟩⟩
def oo(c:Int)(st:Option Nat):Option Nat:=if c=0 then none else st
theorem tQ(h:y7=0):oo y7 M=none:=XA h
theorem vR(h:y7≠0):oo y7 M=M:=Xz h
theorem MV(h:(fY i u z1).1≠0):(fY i u z1).2=i:=by
 unfold fY at h ⊢;split
 ·rfl
 ·next c =>
  rw[Xz c]at h;split
  ·next a=>rw[XA a]at h;exact absurd rfl h
  ·next a =>
   rw[Xz a]at h;split
   ·rfl
   ·next b=>rw[Xz b]at h;exact absurd rfl h
theorem V8(h:eM x N y y2 b z6)(i:q.size<=1073741824)(g:r.size<=4294967296) :
  Calls prog 13 #[pointer (some ⟨N,0,none⟩),string q,string r] x fun e d=>e=returned (int i64 (fY y q r).1)/\eM d N (fY y q r).2 y2 b (oo (fY y q r).1 z6)/\aa [N] x d:=by
 by_cases c:(fY y q r).1=0
 ·refine(Uj N q r y x h.anyS i g).mono (fun e d a=>⟨a.1,?_,a.2.2.2⟩);rw[tQ c];exact⟨XF h.z a.2.2.2.size,a.2.2.1 c⟩
 ·obtain⟨f,m,n,o,l,k⟩:=h.same;refine(WF N q r y f m n o x l i g c).mono (fun e d a=>⟨a.1,?_,a.2.2⟩);have j:=a.2.1;rw[MV c]at j ⊢;rw[vR c];exact k d j a.2.2
theorem Ip(g f:Nat)(i:Option Nat)(w:World)(h:eM w N y8 g f i)(j:mC w p y)(c:nH y) :
  Calls prog 29 #[pointer (some ⟨N,0,none⟩),slice p y.length S] w fun e b=>e=returned (int i64 (eC y))/\eM b N (kU y8 y) g f (oo (eC y) i)/\aa [N] w b:=by
 obtain⟨d,o,r,s,l,k⟩:=h.same;refine(Qc N y8 y d o r s p S w l j c).mono (fun e b q=>⟨q.1,?_,q.2.2⟩);obtain⟨m,n⟩:=q.2.1;by_cases a:eC y=0
 ·rw[tQ a];exact⟨XF h.z q.2.2.size,m a⟩
 ·have:=n a;rw[sZ rfl a]at this ⊢;rw[vR a];exact k b this q.2.2
theorem U3(a:dY x N y z2 y2 b z6)(n:q.size<=1073741824)(l:r.size<=4294967296) :
  Calls prog 14 #[pointer (some ⟨N,0,none⟩),string q,string r] x fun e j=>e=returned (int i64 (fY y q r).1)/\∃f,dY j N (fY y q r).2 f y2 b (oo (fY y q r).1 z6)/\aa (N :: z2.Zbx.toList) x j/\∀c,f.Zbx=some c->z2.Zbx=some c∨x.heap.size<=c:=by
 obtain⟨o,p,s,t,u⟩:=a.anyS;refine(OX N y z2 o p s t q r x u n l).mono (fun e j c=>⟨c.1,?_⟩);by_cases d:(fY y q r).1=0
 ·obtain⟨f,v,g⟩:=c.2.1 d;rw[tQ d];refine⟨f,⟨XF a.z g.Zbw.size,_,_,_,v⟩,g.Zbw,fun c i=>?_⟩;rcases g.Zbx with e | ⟨w,e,m⟩
  ·exact XQ (by rw[<-e];exact i)
  ·rw[e]at i;cases i;exact XK m
 ·have k:=c.2.2 d;rw[vR d,MV d];exact⟨z2,a.Zbj k,k.mono (by simp),fun _ e=>XQ e⟩
theorem Gg(a:dY x N y8 z2 y2 b z6)(m:pD x p S y)(o:p=none->y.length=0/\S=0)(n:∀l,p=some l->∃g,l=⟨g,0,none⟩)(f:∀j,j<y.length->(aI y j).size<=1073741824/\(ak y j).size<=1073741824) :
  Calls prog 30 #[pointer (some ⟨N,0,none⟩),slice p y.length S] x fun e i=>e=returned (int i64 (eC y))/\∃d,dY i N (kU y8 y) d y2 b (oo (eC y) z6)/\aa (N :: z2.Zbx.toList) x i/\∀q,d.Zbx=some q->z2.Zbx=some q∨x.heap.size<=q:=by
 obtain⟨t,u,v,w,r⟩:=a.anyS;refine(Kh N y8 y z2 t u v w p S x r m o n f).mono (fun e i q=>⟨q.1,?_⟩);by_cases c:eC y=0
 ·obtain⟨d,A,g,s⟩:=q.2.1 c;rw[tQ c];exact⟨d,⟨XF a.z g.size,_,_,_,A⟩,g,s⟩
 ·have k:=q.2.2 c;rw[vR c,sZ rfl c];exact⟨z2,a.Zbj k,k.mono (by simp),fun _ e=>XQ e⟩
theorem Gp(a:y.length<=4)(b:∀j,j<y.length->(ak y j).size<=1024)(d:S<y.length)(h:((gO y S).1==0)=true):gO y S=dJ:=by
 unfold gO at h;split at h
 ·next c =>
  have e:(Rr (CQ (dd y S).1 (aj (dd y S).1))).1=(CQ (dd y S).1 (aj (dd y S).1)).ZbG:=rfl;rw[e,c]at h;cases h
 ·next c =>
  exact(Ag y S a b d (by cases q:((CQ (dd y S).1 (aj (dd y S).1)).ZbG==0);exact absurd q c;rfl) h).1
def qt(z lo hi lo1 hi1:Nat):Prop:=(lo1=lo/\hi1=hi)∨z<=lo1
theorem qt.mem{z lo hi:Nat}(h:qt z lo hi w H)(a:o∈jA w H):o∈jA lo hi∨z<=o:=by
 rcases h with ⟨rfl,rfl⟩ | h
 ·exact XQ a
 ·exact XK (XF h (pR.1 a).1)
def VfX(w:World)(x:Nat)(fs:Fs)(lo hi:Nat)(f:sB)(q:Int)(st:Option Nat)(e:Ending)(w':World):Prop :=
 e=returned (tuple #[jh f,int i64 q])/\(∃lo1 hi1,eM w' x fs lo1 hi1 st/\qt w.heap.size lo hi lo1 hi1)/\aa [x] w w'
def VfM(w:World)(m:Nat)(fs:Fs)(h:Hd)(lo hi:Nat)(f:sB)(q:Int)(st:Option Nat)(e:Ending)(w':World):Prop :=
 e=returned (tuple #[jh f,int i64 q])/\(∃lo1 hi1,dY w' m fs h lo1 hi1 st/\qt w.heap.size lo hi lo1 hi1)/\aa [m] w w'
theorem QX(a:Fs)(h:Hd)(D C o m:Nat)(F:Option Nat)(n:Xr)(w:World)(I:eM w b a D C F)(x:a.length<=4)(p:∀j,j<a.length->(ak a j).size<=1024) :
  ∃(f:sB) (q:Int) (B:Option Nat),Calls prog 35 #[pointer (some ⟨b,0,none⟩),string n] w (fun e i=>VfX w b a D C f q B e i) /\
   ∀c,dY c S a h o m F->Calls prog 36 #[pointer (some ⟨S,0,none⟩),string n] c (fun e i=>VfM c S a h o m f q B e i):=by
 rcases sP n a with u | ⟨k,v,u⟩
 ·obtain⟨O,u0,u1,u2,X,W⟩:=I.same;refine⟨dJ,5,F,(Jc b a n O u0 u1 u2 w X (by rw[u];decide)).mono (fun e i q=>⟨q.1,⟨D,C,W i q.2.1 q.2.2,XQ ⟨rfl,rfl⟩⟩,q.2.2⟩),fun c d=>?_⟩;obtain⟨J,K,L,M,r⟩:=d.anyS;exact(CA S a h J K L M n c r (by rw[u];decide)).mono (fun e i q=>⟨q.1,⟨o,m,d.Zbj q.2,XQ ⟨rfl,rfl⟩⟩,q.2.mono (by simp)⟩)
 ·obtain⟨P,-⟩:=Af a k x p v;have A:=LG b k a n w I.anyS u v p;have y:∀c,dY c S a h o m F->Calls prog 36 #[pointer (some ⟨S,0,none⟩),string n] c fun e i=>VfR a k S h (gO a k) (if((gO a k).1==0)=true then 0 else 6) c e i:=fun c d=>by
   obtain⟨J,K,L,M,r⟩:=d.anyS;exact Fn S k a h J K L M n c r u v p
  cases t:((gO a k).1==0)
  ·refine⟨gO a k,6,none,A.mono (fun e i q=>?_),fun c d=>(y c d).mono (fun e i q=>?_)⟩
   ·obtain⟨s,d⟩:=q;rw[P,t,Xz (by simp)]at s;exact⟨s.1,⟨D,C,⟨XF I.z d.size,s.2⟩,XQ ⟨rfl,rfl⟩⟩,d⟩
   ·rw[t,Xz (by simp)]at q;obtain⟨N,⟨-,Z⟩,E⟩:=q;exact⟨N,⟨o,m,⟨XF d.z E.size,Z (by decide)⟩,XQ ⟨rfl,rfl⟩⟩,E⟩
  ·refine⟨gO a k,0,some k,A.mono (fun e i q=>?_),fun c d=>(y c d).mono (fun e i q=>?_)⟩
   ·obtain⟨s,d⟩:=q;rw[P,t,XA rfl]at s;obtain⟨s,H,g,G,T,U⟩:=s;exact⟨by rw[s,Gp a k x p v t],⟨w.heap.size,i.heap.size,⟨Xy _,⟨v,t⟩,H,g,G,⟨T,ah G.arr⟩,fun R Q=>⟨U R Q.inH,G.Zbv.ltU Q⟩⟩,XK (Xy _)⟩,d⟩
   ·rw[t,XA rfl]at q;obtain⟨N,⟨Y,-⟩,E⟩:=q;obtain⟨l,V,r⟩:=Y rfl;exact⟨N,⟨l,i.heap.size,⟨Xy _,r⟩,XK V⟩,E⟩
def FrX(L:Xs)(c:Int)(w:World)(e:Ending)(w':World):Prop:=∃bo,e=returned (tuple #[slice (Az bo) L.length L.length,int i64 c])/\yW w' bo L/\(∀b,bo=some b->w.heap.size<=b)/\aa [] w w'
def FrM(L:Xs)(c:Int)(w:World)(e:Ending)(w':World):Prop:=∃h',e=returned (tuple #[slice h'.ao L.length h'.cap,int i64 c])/\iG w w' h' (aE L)
theorem Et(b:i.length<=4)(a:∀j,j<i.length->(ak i j).size<=1024)(k:w<i.length)(f:((gO i w).1==0)=true):un (dd i w).1 (cK i w).2.2/\(dd i w).1.length<=10000/\fN (dd i w).1:=by
 obtain⟨c,g⟩:=Af i w b a k;obtain⟨d,e⟩:=g (by rw[c];exact f);exact⟨d,e,Gy i w (wk a)⟩
theorem VT(L:Xs)(a:L=[]):iG x x ⟨none,0⟩ (aE L):=by subst a;exact⟨XE _ _ _ _,(by intro k b;cases b),aa.refl _ _⟩
def RwM(w:World)(e:Ending)(w':World):Prop:=∃(L:List j4) (h':Hd),e=returned (slice h'.ao L.length h'.cap)/\iG w w' h' (ie L)/\L.length<=100000
theorem Re(w:dY x N y z2 y2 b z6)(i:∀k,z6=some k->k<y.length/\((gO y k).1==0)=true)(g:y.length<=4)(l:∀j,j<y.length->(ak y j).size<=1024) :
  Calls prog 21 #[pointer (some ⟨N,0,none⟩)] x fun e m=>RwM x e m:=by
 have p:=w.s;cases z6 with
 | none =>
  obtain⟨z,A,B,r⟩:=p;refine(Pq N _ z A B x r.d).mono (fun e m q=>⟨[],⟨none,0⟩,q.1,?_,by simp⟩);rw[q.2];exact⟨XE _ _ _ _,(by intro k c;cases c),aa.refl _ _⟩
 | some k =>
  obtain⟨c,u⟩:=i k rfl;obtain⟨G,O,M⟩:=Et g l c u;obtain⟨I,H,K,F,J,E,L,n,o,r⟩:=p;have v:=r.ZbC.tell;have P:(aj (dd y k).1).length<=(dd y k).1.length:=t8 _ _;have a:n.length<=100000:=by rw[v.len];omega
  refine(Pp N n o.ao o.cap _ _ _ x r.rv.d (aD.srcG (f:=lZ) r.s2 (fun _=>rfl)) a).mono (fun e m q=>?_);obtain⟨t,C,D⟩:=q;exact⟨_,t,C,D,XF (YE _ _) a⟩
def vk(b t:Nat)(c:List Value):It where
 B:=[b]
 P w:=w.heap[b]?=some (.cells c.toArray t)
 lt w h q hq:=by rw[XH.1 hq];exact ah h
 ok S w w' h k hb:=k.get h (hb b (by simp))
def de(h:Hd)(r:eD):It where
 B:=h.Zbx.toList
 P w:=aD w h r
 lt w o q hq:=o.lt (aX hq)
 ok S w w' o k hb:=o.Zbo (fun q hq=>k.block q (o.lt hq) (hb q (by rw[hq];simp)))
def itV(x:Nat)(fs:Fs)(lo hi:Nat)(st:Option Nat):It where
 B:=x :: jA lo hi
 P w:=eM w x fs lo hi st
 lt _ a q hq:=a.lt q hq
 ok _ _ _ a k hb:=a.Zbw k hb
def itR(v:Nat)(h:Hd)(fs:Fs)(lo hi:Nat)(st:Option Nat):It where
 B:=v :: (h.Zbx.toList++jA lo hi)
 P w:=dY w v fs h lo hi st
 lt _ a q hq:=a.lt q hq
 ok _ _ _ a k hb:=a.Zbw k hb
def FD(fs:Fs):Prop:=∀j,j<fs.length->(ak fs j).size<=1024
structure jZ(w:World)(bo:Option Nat)(fs:Fs):Prop where
 nil:bo=none->fs=[]
 Zbx:∀b,bo=some b->w.heap[b]?=some (.cells (uA fs).toArray 68)
def yA(bo:Option Nat)(fs:Fs):It where
 B:=bo.toList
 P w:=jZ w bo fs
 lt w a q hq:=by
  cases bo with
  | none=>cases hq
  | some b=>rw[ZaM,XH]at hq;rw[hq];exact ah (a.Zbx b rfl)
 ok S w w' a k hb:=⟨a.nil,fun b e=>k.get (a.Zbx b e) (hb b (by rw[e];simp))⟩
def EJ(x:Option Nat×Fs):Value:=slice (Az x.1) x.2.length x.2.length
def jB(l:List (Option Nat×Fs)):eD:=⟨33,1,l.length,l.map EJ⟩
def V9(x:Nat):Value:=pointer (some ⟨x,0,none⟩)
def nk(t:Nat)(l:Xu):eD:=⟨t,1,l.length,l.map V9⟩
structure Mc where
 hx:Hd
 hm:Hd
 hr:Hd
 hl:Hd
 hc:Hd
 V:List (Nat×Nat×Fs)
 reg:Fs
 L:List (Option Nat×Option Nat×Fs)
 a:Int
 n:Int
 e:Int
 u:Int
 s:Xr
 p:Int
 q:Int
 f:Xr
 i:Int
 j:Int
 qv:Value
 tv:Value
def Mc.cells(M:Mc):List Value:=[slice M.hx.ao M.V.length M.hx.cap,slice M.hm.ao M.V.length M.hm.cap,slice M.hr.ao M.reg.length M.hr.cap,slice M.hl.ao M.L.length M.hl.cap,slice M.hc.ao M.L.length M.hc.cap,int i64 M.a,int i64 M.n,int i64 M.e,int i64 M.u,string M.s,int i64 M.p,int i64 M.q,string M.f,int i64 M.i,int i64 M.j,M.qv,M.tv]
structure cU(w:World)(b:Nat)(I:Nat×Nat->It)(M:Mc)(N:Nat):Prop where
 sep:qq w I
 w0:I (0,0)=vk b 42 M.cells
 x:I (1,0)=de M.hx (nk 46 (M.V.map (·.1)))
 m:I (2,0)=de M.hm (nk 47 (M.V.map (·.2.1)))
 r:I (3,0)=de M.hr (dq M.reg)
 ls:I (4,0)=de M.hl (jB (M.L.map (fun l=>(l.1,l.2.2))))
 lw:I (5,0)=de M.hc (jB (M.L.map (fun l=>(l.2.1,l.2.2))))
 v:∀i x m fs,M.V[i]?=some (x,m,fs)->(∃st h lo hi lo2 hi2,I (6,i)=itV x fs lo hi st/\I (7,i)=itR m h fs lo2 hi2 st)/\FD fs
 l:∀k a c fs,M.L[k]?=some (a,c,fs)->I (8,k)=yA a fs/\I (9,k)=yA c fs/\nH fs/\fs.length<=N
 fit:nH M.reg
 len:M.V.length<=N/\M.reg.length<=N/\M.L.length<=N
 rng:tP M.a/\tP M.n/\tP M.e
structure uT(I:Nat×Nat->It)(M:Mc)(I':Nat×Nat->It)(M':Mc):Prop where
 k:∀j i,10<=j->I' (j,i)=I (j,i)
 q:M'.qv=M.qv
 t:M'.tv=M.tv
theorem uT.refl(M:Mc):uT s M s M:=⟨fun _ _ _=>rfl,rfl,rfl⟩
theorem rP{a:It}(b:w<10)(c:10<=o):gC d (w,H) a (o,y5)=d (o,y5):=aA _ _ (bJ (by omega))
theorem cU.Zbj{M:Mc}(h:cU f w d M H)(k:aa [] f D):cU D w d M H:={ h with sep:=h.sep.Zbj k }
theorem cU.more{M:Mc}(h:cU f w d M H):cU f w d M (H+1) :=
 { h with l:=fun k a c j e=>by obtain⟨b,g,i,m⟩:=h.l k a c j e;exact⟨b,g,i,by omega⟩,len:=by obtain⟨b,g,i⟩:=h.len;exact⟨by omega,by omega,by omega⟩ }
theorem cU.Zbx{M:Mc}(h:cU f w d M H):f.heap[w]?=some (.cells M.cells.toArray 42):=by
 have:=h.sep.all (0,0);rw[h.w0]at this;exact this
theorem cU.ownX{M:Mc}(h:cU f w d M H):aD f M.hx (nk 46 (M.V.map (·.1))):=by have:=h.sep.all (1,0);rw[h.x]at this;exact this
theorem cU.ownM{M:Mc}(h:cU f w d M H):aD f M.hm (nk 47 (M.V.map (·.2.1))):=by have:=h.sep.all (2,0);rw[h.m]at this;exact this
theorem cU.ownR{M:Mc}(h:cU f w d M H):aD f M.hr (dq M.reg):=by have:=h.sep.all (3,0);rw[h.r]at this;exact this
theorem cU.ownL{M:Mc}(h:cU f w d M H):aD f M.hl (jB (M.L.map (fun l=>(l.1,l.2.2)))):=by have:=h.sep.all (4,0);rw[h.ls]at this;exact this
theorem cU.ownC{M:Mc}(h:cU f w d M H):aD f M.hc (jB (M.L.map (fun l=>(l.2.1,l.2.2)))):=by have:=h.sep.all (5,0);rw[h.lw]at this;exact this
theorem qq.grow(s:qq f d)(e:d zf=de I yv)(g:bL f D I z3)(o:aD D z3 yg):qq D (gC d zf (de z3 yg)):=by
 refine s.put zf _ (by rw[e];exact g.Zbw) o (fun q a=>?_);have a:=aX a;rcases g.Zbx with b | ⟨i,b,c⟩
 ·left;rw[e];show q∈I.Zbx.toList;rw[<-b,a];simp
 ·right;rw[b]at a;cases a;exact c
theorem qq.turn{a:List Value}(s:qq f d)(e:d zf=vk w H yr)(g:aa [w] f D)(o:D.heap[w]?=some (.cells a.toArray H)):qq D (gC d zf (vk w H a)) :=
 s.put zf _ (by rw[e];exact g) o (fun q b=>by rw[e];exact XQ b)
def jS(b:Nat)(I:Nat×Nat->It)(M:Mc)(N:Nat)(r:Bool)(e:Ending)(w':World):Prop:=e=returned (bool r)/\∃I' M',cU w' b I' M' (N+1)/\uT I M I' M'
theorem cU.turn0{M M':Mc}(h:cU f w d M H)(e:(M'.hx=M.hx/\M'.hm=M.hm/\M'.hr=M.hr/\M'.hl=M.hl/\M'.hc=M.hc)/\M'.V=M.V/\M'.reg=M.reg/\M'.L=M.L)(k:aa [w] f D)(o:D.heap[w]?=some (.cells M'.cells.toArray 42))(B:tP M'.a/\tP M'.n/\tP M'.e):cU D w (gC d (0,0) (vk w 42 M'.cells)) M' H:=by
 obtain⟨⟨s,t,u,y,z⟩,c,j,g⟩:=e;have q:∀a i,a≠0->gC d (0,0) (vk w 42 M'.cells) (a,i)=d (a,i):=fun a i A=>aA _ _ (bJ A)
 exact {
  sep:=h.sep.turn h.w0 k o
  w0:=b9 _ _ _
  x:=by rw[q 1 0 (by decide),s,c];exact h.x
  m:=by rw[q 2 0 (by decide),t,c];exact h.m
  r:=by rw[q 3 0 (by decide),u,j];exact h.r
  ls:=by rw[q 4 0 (by decide),y,g];exact h.ls
  lw:=by rw[q 5 0 (by decide),z,g];exact h.lw
  v:=fun i x m p b=>by rw[q 6 i (by decide),q 7 i (by decide)];rw[c]at b;exact h.v i x m p b
  l:=fun i x m p b=>by rw[q 8 i (by decide),q 9 i (by decide)];rw[g]at b;exact h.l i x m p b
  fit:=by rw[j];exact h.fit
  len:=by rw[c,j,g];exact h.len
  rng:=B }
theorem cU.boxed{M:Mc}(h:cU f w d M H)(k a c b:Int)(s t:Xr)(W:World)(e:f.alloc (.cells #[int i64 k,int i64 a,int i64 c,int i64 b,string s,string t] 28)=W) :
  cU W w d M H/\W.heap[f.heap.size]?=some (.cells #[int i64 k,int i64 a,int i64 c,int i64 b,string s,string t] 28)/\w<f.heap.size/\aa [] f W:=by
 have g:aa [] f W:=by rw[<-e];exact bH.alloc _
 exact⟨h.Zbj g,by rw[<-e];exact XD _ _,ah h.Zbx,g⟩
theorem dG{a c d:Int}(h:f.heap[w]?=some (.cells #[int i64 y7,int i64 a,int i64 c,int i64 d,string u,string z1] 28)) :
  f.cell? ⟨w,0,none⟩=some (int i64 y7)/\f.cell? ⟨w,1,none⟩=some (int i64 a)/\f.cell? ⟨w,2,none⟩=some (int i64 c)/\f.cell? ⟨w,3,none⟩=some (int i64 d)/\f.cell? ⟨w,4,none⟩=some (string u)/\f.cell? ⟨w,5,none⟩=some (string z1)/\w<f.heap.size:=by
 refine⟨?_,?_,?_,?_,?_,?_,ah h⟩ <;> (rw[ab h];rfl)
theorem zaS(M:Mc)(A C D:Int)(d t:Xr)(w:World)(h:cU w b s M S)(l:tP A)(m:tP C)(p:tP D) :
  Calls prog 10 #[pointer (some ⟨b,0,none⟩),agg #[int i64 7,int i64 A,int i64 C,int i64 D,string d,string t]] w fun e u=>jS b s M S true e u:=by
 obtain⟨W,f⟩:=aP (w.alloc (.cells #[int i64 7,int i64 A,int i64 C,int i64 D,string d,string t] 28));obtain⟨c,g,q,-⟩:=h.boxed 7 A C D d t W f.o;obtain⟨B,E,F,G,H,I,J⟩:=dG g;have v:W.cell? ⟨b,5,none⟩=some (int i64 M.a):=by rw[ab c.Zbx];rfl
 have x:W.cell? ⟨b,6,none⟩=some (int i64 M.n):=by rw[ab c.Zbx];rfl
 have y:W.cell? ⟨b,7,none⟩=some (int i64 M.e):=by rw[ab c.Zbx];rfl
 have z:=zcW c.Zbx;have k:Xq (cU (((W.setCell ⟨b,5,none⟩ (int i64 A)).setCell ⟨b,6,none⟩ (int i64 C)).setCell ⟨b,7,none⟩ (int i64 D)) b _ { M with a:=A,n:=C,e:=D } S) :=
  c.turn0 (M':={ M with a:=A,n:=C,e:=D }) ⟨⟨rfl,rfl,rfl,rfl,rfl⟩,rfl,rfl,rfl⟩ ((((aa.refl [b] _).sl1 _).sl1 _).sl1 _) (by rw[ae (ae (ae c.Zbx 5 _) 6 _) 7 _];rfl) ⟨l,m,p⟩
 clear h c g;go_enter func10,ntmps10;go_upto_region 1 with fail
 rw[f.o];go_wp2;go_ret;exact⟨rfl,_,_,k.o.more,⟨fun j i r=>rP (by decide) r,rfl,rfl⟩⟩
theorem VI(M:Mc)(A C D:Int)(c t:Xr)(w:World)(h:cU w b s M S) :
  Calls prog 10 #[pointer (some ⟨b,0,none⟩),agg #[int i64 16,int i64 A,int i64 C,int i64 D,string c,string t]] w fun e m=>jS b s M S true e m:=by
 obtain⟨W,d⟩:=aP (w.alloc (.cells #[int i64 16,int i64 A,int i64 C,int i64 D,string c,string t] 28));obtain⟨a,f,k,-⟩:=h.boxed 16 A C D c t W d.o;obtain⟨q,r,v,x,y,z,B⟩:=dG f;have p:=zcW a.Zbx;have n:W.cell? ⟨b,8,none⟩=some (int i64 M.u):=by rw[ab a.Zbx];rfl
 have g:Xq (cU (W.setCell ⟨b,8,none⟩ (int i64 A)) b _ { M with u:=A } S) :=
  a.turn0 (M':={ M with u:=A }) ⟨⟨rfl,rfl,rfl,rfl,rfl⟩,rfl,rfl,rfl⟩ ((aa.refl [b] _).sl1 _) (by rw[ae a.Zbx 8 _];rfl) a.rng
 clear h a f;go_enter func10,ntmps10;go_upto_region 1 with fail
 rw[d.o];go_wp2;go_ret;exact⟨rfl,_,_,g.o.more,⟨fun j i l=>rP (by decide) l,rfl,rfl⟩⟩
theorem VJ(M:Mc)(A C D:Int)(c t:Xr)(w:World)(h:cU w b s M S)(k:M.qv=slice none 0 0) :
  Calls prog 10 #[pointer (some ⟨b,0,none⟩),agg #[int i64 17,int i64 A,int i64 C,int i64 D,string c,string t]] w fun e l=>jS b s M S true e l:=by
 obtain⟨W,d⟩:=aP (w.alloc (.cells #[int i64 17,int i64 A,int i64 C,int i64 D,string c,string t] 28));obtain⟨a,f,j,-⟩:=h.boxed 17 A C D c t W d.o;obtain⟨m,n,p,q,r,u,v⟩:=dG f;have i:W.cell? ⟨b,15,none⟩=some (slice none 0 0):=by rw[ab a.Zbx,<-k];rfl
 have g:Xq (cU W b s M S):=a;clear h a f;go_enter func10,ntmps10;go_upto_region 1 with fail
 rw[d.o];go_wp2;go_ret;exact⟨rfl,_,_,g.o.more,uT.refl _ _⟩
theorem mX(M:Mc)(k A C D:Int)(d t:Xr)(w:World)(h:cU w b s M S)(n:(8<=k/\k<=14)∨19<=k) :
  Calls prog 10 #[pointer (some ⟨b,0,none⟩),agg #[int i64 k,int i64 A,int i64 C,int i64 D,string d,string t]] w fun e x=>e=returned (bool false)/\aa [] w x:=by
 obtain⟨W,f⟩:=aP (w.alloc (.cells #[int i64 k,int i64 A,int i64 C,int i64 D,string d,string t] 28));obtain⟨j,g,l,c⟩:=h.boxed k A C D d t W f.o;obtain⟨I,-⟩:=dG g;have i:Xq (aa [] w W):=c;have a:∀m:Int,(k=m->False)->(k==m)=false:=fun m p=>X6.2 p;have y:=a 1 (by omega);have z:=a 2 (by omega);have B:=a 3 (by omega);have E:=a 4 (by omega);have F:=a 5 (by omega);have G:=a 6 (by omega);have H:=a 7 (by omega);have q:=a 15 (by omega);have r:=a 16 (by omega);have u:=a 17 (by omega);have v:=a 18 (by omega);clear h j g a n c;go_enter func10,ntmps10;go_upto_region 1 with fail
 rw[f.o];go_wp2;go_ret;exact⟨rfl,i.o⟩
theorem VH(M:Mc)(A C D:Int)(c t:Xr)(w:World)(h:cU w b s M S) :
  Calls prog 10 #[pointer (some ⟨b,0,none⟩),agg #[int i64 15,int i64 A,int i64 C,int i64 D,string c,string t]] w fun e z=>jS b s M S true e z:=by
 obtain⟨W,d⟩:=aP (w.alloc (.cells #[int i64 15,int i64 A,int i64 C,int i64 D,string c,string t] 28));obtain⟨a,g,x,-⟩:=h.boxed 15 A C D c t W d.o;obtain⟨G,H,I,J,K,L,N⟩:=dG g;have F:=zcW a.Zbx;have B:W.cell? ⟨b,8,none⟩=some (int i64 M.u):=by rw[ab a.Zbx];rfl
 have E:W.cell? ⟨b,9,none⟩=some (string M.s):=by rw[ab a.Zbx];rfl
 have l:W.cell? ⟨b,10,none⟩=some (int i64 M.p):=by rw[ab a.Zbx];rfl
 have m:W.cell? ⟨b,11,none⟩=some (int i64 M.q):=by rw[ab a.Zbx];rfl
 have n:W.cell? ⟨b,12,none⟩=some (string M.f):=by rw[ab a.Zbx];rfl
 have r:W.cell? ⟨b,13,none⟩=some (int i64 M.i):=by rw[ab a.Zbx];rfl
 have v:W.cell? ⟨b,14,none⟩=some (int i64 M.j):=by rw[ab a.Zbx];rfl
 have k:Xq (cU (((((((W.setCell ⟨b,9,none⟩ (string c)).setCell ⟨b,10,none⟩ (int i64 A)).setCell ⟨b,11,none⟩ (int i64 C)).setCell ⟨b,12,none⟩ (string t)).setCell ⟨b,13,none⟩ (int i64 D)).setCell ⟨b,14,none⟩ (int i64 M.u)).drew) b _ { M with s:=c,p:=A,q:=C,f:=t,i:=D,j:=M.u } S) :=
  (a.turn0 (M':={ M with s:=c,p:=A,q:=C,f:=t,i:=D,j:=M.u }) ⟨⟨rfl,rfl,rfl,rfl,rfl⟩,rfl,rfl,rfl⟩ ((((((((aa.refl [b] _).sl1 _).sl1 _).sl1 _).sl1 _).sl1 _).sl1 _)) (by rw[ae (ae (ae (ae (ae (ae a.Zbx 9 _) 10 _) 11 _) 12 _) 13 _) 14 _];rfl) a.rng).Zbj bH.drew
 clear h a g;go_enter func10,ntmps10;go_upto_region 1 with fail
 rw[d.o];go_upto_region 38 with fail
 go_region
 all_goals go_wp2
 all_goals go_ret
 all_goals exact⟨rfl,_,_,k.o.more,⟨fun j i y=>rP (by decide) y,rfl,rfl⟩⟩
theorem cU.clear{M:Mc}(h:cU f w d M H)(k:aa [w] f D)(o:D.heap[w]?=some (.cells ({ M with hr:=⟨none,0⟩,reg:=[] }:Mc).cells.toArray 42)):∃g,cU D w g { M with hr:=⟨none,0⟩,reg:=[] } H/\uT d M g { M with hr:=⟨none,0⟩,reg:=[] }:=by
 have y:=h.sep.turn h.w0 k o;have z:=y.put (3,0) (de ⟨none,0⟩ (dq [])) ((aa.refl _ D).mono (fun _ u _=>u)) (XE _ _ _ _) (fun q t=>by cases t);refine⟨gC (gC d (0,0) (vk w 42 ({ M with hr:=⟨none,0⟩,reg:=[] }:Mc).cells)) (3,0) (de ⟨none,0⟩ (dq [])),?_,?_⟩
 rotate_left
 ·exact⟨fun j i s=>by(repeat rw[rP (by decide) s]),rfl,rfl⟩
 have q:∀a i,a≠0->a≠3->(gC (gC d (0,0) (vk w 42 ({ M with hr:=⟨none,0⟩,reg:=[] }:Mc).cells)) (3,0) (de ⟨none,0⟩ (dq []))) (a,i)=d (a,i):=fun a i n p=>by rw[aA _ _ (bJ p),aA _ _ (bJ n)]
 exact {
  sep:=z
  w0:=by rw[aA _ _ (bJ (by decide))];exact b9 _ _ _
  x:=by rw[q 1 0 (by decide) (by decide)];exact h.x
  m:=by rw[q 2 0 (by decide) (by decide)];exact h.m
  r:=b9 _ _ _
  ls:=by rw[q 4 0 (by decide) (by decide)];exact h.ls
  lw:=by rw[q 5 0 (by decide) (by decide)];exact h.lw
  v:=fun i x m c e=>by rw[q 6 i (by decide) (by decide),q 7 i (by decide) (by decide)];exact h.v i x m c e
  l:=fun i x m c e=>by rw[q 8 i (by decide) (by decide),q 9 i (by decide) (by decide)];exact h.l i x m c e
  fit:=fun j=>⟨by show(0:Nat)<=_;omega,by show(0:Nat)<=_;omega⟩
  len:=⟨h.len.1,XX _,h.len.2.2⟩
  rng:=h.rng }
theorem zaO(b N:Nat)(I:Nat×Nat->It)(M:Mc)(A C D:Int)(s t:Xr)(w:World)(h:cU w b I M N) :
  Calls prog 10 #[pointer (some ⟨b,0,none⟩),agg #[int i64 3,int i64 A,int i64 C,int i64 D,string s,string t]] w fun e m=>jS b I M N true e m:=by
 obtain⟨W,f⟩:=aP (w.alloc (.cells #[int i64 3,int i64 A,int i64 C,int i64 D,string s,string t] 28));obtain⟨a,g,k,-⟩:=h.boxed 3 A C D s t W f.o;obtain⟨q,r,u,v,x,y,z⟩:=dG g;have p:=zcW a.Zbx;have n:W.cell? ⟨b,2,none⟩=some (slice M.hr.ao M.reg.length M.hr.cap):=by rw[ab a.Zbx];rfl
 have i:Xq (∃c,cU (W.setCell ⟨b,2,none⟩ (slice none 0 0)) b c { M with hr:=⟨none,0⟩,reg:=[] } N/\uT I M c { M with hr:=⟨none,0⟩,reg:=[] }) :=
  a.clear ((aa.refl [b] _).sl1 _) (by rw[ae a.Zbx 2 _];rfl)
 clear h a g;go_enter func10,ntmps10;go_upto_region 1 with fail
 rw[f.o];go_wp2;go_ret;obtain⟨c,j,d⟩:=i.o;exact⟨rfl,c,_,j.more,d⟩
theorem dL{c:List Oper}(H:z4.guard=none)(s v:Operand)(t:TypeId)(p:z4.op=Op.call { callee:=Callee.builtin Builtin.append,args:=#[s,v],argTypes:=#[t,t] })(i:TypeInfo)(z:Value)(b:Nat)(h:Hd)(r:eD)(a:List Value)(w:zt.underlying t=some (.slice r.e))(y:zt.info? r.e=some i)(A:i.zero=some z)(B:i.size=r.size)(C:i.bytes=b)(D:z.cells.size=r.size)(E:0<r.size)(L:y1.eval s=slice h.ao r.n h.cap)(d:aD x h r)(Q:r.n<=4294967296)(G:b<=1000)(M:y1.eval v=slice (some ⟨x.heap.size,0,none⟩) 1 1)(R:a.length=r.size)(l:∀u∈a,u.oneCell'=true)(F:∀k g,aD g k ⟨r.e,r.size,r.n+1,r.xs++a⟩->bL x g h k->wpList zt ys yt c (y1.put z4.dst (slice k.ao (r.n+1) k.cap)) g) :
  wpList zt ys yt (z4 :: c) y1 (x.alloc (.cells a.toArray r.e)):=by
 have q:aa [] x (x.alloc (.cells a.toArray r.e)):=bH.alloc _;have J:(x.alloc (.cells a.toArray r.e)).heap[x.heap.size]?=some (.cells a.toArray r.e):=XD _ _;obtain⟨o,g,f,N,O⟩:=sI (P:=zt) (x.alloc (.cells a.toArray r.e)) t z4.type i z b h r w y A B C D E (d.Zbj q) (some ⟨x.heap.size,0,none⟩) 1 1 a (by omega) (fun e=>by cases e) (fun P e j u I=>by cases e;rw[bE,ab J];simpa using I) l (by unfold maxLen;omega) (XF (YF (show r.n+1<=4294967297 by omega) G) (by omega));refine wpList_plain H fun K m=>?_;unfold Oper.wp;simp[execOp,p,resolve,invoke,builtin,L,M,f,Result.andThen];exact m _ _ (F o g N ((bL.Zbj q).trans O))
theorem xY{K:Act->World->Prop}{E:Prop}(H:z4.guard=none)(s q:Operand)(t:TypeId)(o:z4.op=Op.call { callee:=Callee.builtin Builtin.append,args:=#[s,q],argTypes:=#[t,t] })(i:TypeInfo)(z:Value)(b:Nat)(h:Hd)(r:eD)(a:List Value)(v:zt.underlying t=some (.slice r.e))(w:zt.info? r.e=some i)(y:i.zero=some z)(A:i.size=r.size)(B:i.bytes=b)(C:z.cells.size=r.size)(D:0<r.size)(L:y1.eval s=slice h.ao r.n h.cap)(g:aD x h r)(R:r.n<=4294967296)(G:b<=1000)(N:y1.eval q=slice (some ⟨x.heap.size,0,none⟩) 1 1)(S:a.length=r.size)(m:∀u∈a,u.oneCell'=true)(F:∀d c l,aD l ⟨d,c⟩ ⟨r.e,r.size,r.n+1,r.xs++a⟩->bL x l h ⟨d,c⟩->K (y1.put z4.dst (slice d (r.n+1) c)) l) :
  if Region.wanted z4 (yielded ys y1.tmps)=true then Oper.wp zt z4 y1 (x.alloc (.cells a.toArray r.e)).drew K yt else E:=by
 have p:aa [] x (x.alloc (.cells a.toArray r.e)).drew:=(bH.alloc _).drew;have J:(x.alloc (.cells a.toArray r.e)).drew.heap[x.heap.size]?=some (.cells a.toArray r.e):=XD _ _;obtain⟨f,l,k,O,P⟩:=sI (P:=zt) (x.alloc (.cells a.toArray r.e)).drew t z4.type i z b h r v w y A B C D (g.Zbj p) (some ⟨x.heap.size,0,none⟩) 1 1 a (by omega) (fun e=>by cases e) (fun Q e j u I=>by cases e;rw[bE,ab J];simpa using I) m (by unfold maxLen;omega) (XF (YF (show r.n+1<=4294967297 by omega) G) (by omega));have M:Region.wanted z4 (yielded ys y1.tmps)=true:=by simp[Region.wanted,H]
 rw[XA M];unfold Oper.wp;simp[execOp,o,resolve,invoke,builtin,L,N,k,Result.andThen];exact F f.ao f.cap l O ((bL.Zbj p).trans P)
theorem qq.grown(s:qq f d)(i:d (0,0)=vk w H yr)(k:zf≠(0,0))(e:d zf=de I yv)(g:bL f D I z3)(o:aD D z3 yg)(j:Nat)(v:Value) :
  qq (D.setCell ⟨w,j,none⟩ v) (gC (gC d zf (de z3 yg)) (0,0) (vk w H (yr.set j v))):=by
 have c:=s.grow e g o;have a:gC d zf (de z3 yg) (0,0)=vk w H yr:=by rw[aA _ _ (Ne.symm k)];exact i
 refine c.turn a ((aa.refl [w] _).sl1 _) ?_;have b:=c.all (0,0);rw[a]at b;rw[ae (show D.heap[w]?=some (.cells yr.toArray H) from b) j v,Yh]
theorem Pk(f:Xr×Xr):∀u∈WZ f,u.oneCell'=true:=by
 intro u a;simp only[WZ,List.mem_cons,List.not_mem_nil,or_false]at a;rcases a with rfl | rfl <;> rfl
theorem En(h:nH i)(b:u.size<=1073741824)(a:z1.size<=1073741824):nH (i++[(u,z1)]):=by
 intro j;have:=h j;unfold aI ak at *;rw[Xw]at *;by_cases e:j<i.length
 ·rw[XP e];exact this
 ·rw[XO (by omega)];cases c:j-i.length with
  | zero=>exact⟨b,a⟩
  | succ q=>exact⟨by show(0:Nat)<=_;omega,by show(0:Nat)<=_;omega⟩
theorem cU.addR{M:Mc}(h:cU f w d M H)(g:bL f D M.hr I)(o:aD D I (dq (M.reg++[(u,z1)])))(z:u.size<=1073741824)(t:z1.size<=1073741824):∃k n,cU (D.setCell ⟨w,2,none⟩ (slice I.ao (M.reg.length+1) I.cap)) w k n (H+1)/\uT d M k n:=by
 have A:=h.sep.grown h.w0 (bJ (by decide)) h.r g o 2 (slice I.ao (M.reg.length+1) I.cap);refine⟨gC (gC d (3,0) (de I (dq (M.reg++[(u,z1)])))) (0,0) (vk w 42 (M.cells.set 2 (slice I.ao (M.reg.length+1) I.cap))),{ M with hr:=I,reg:=M.reg++[(u,z1)] },?_,?_⟩
 rotate_left
 ·exact⟨fun j i y=>by(repeat rw[rP (by decide) y]),rfl,rfl⟩
 have q:∀a i,a≠0->a≠3->(gC (gC d (3,0) (de I (dq (M.reg++[(u,z1)])))) (0,0) (vk w 42 (M.cells.set 2 (slice I.ao (M.reg.length+1) I.cap)))) (a,i)=d (a,i):=fun a i p s=>by rw[aA _ _ (bJ p),aA _ _ (bJ s)]
 have c:=h.more
 exact {
  sep:=A
  w0:=by rw[b9];unfold Mc.cells;rw[XC];rfl
  x:=by rw[q 1 0 (by decide) (by decide)];exact h.x
  m:=by rw[q 2 0 (by decide) (by decide)];exact h.m
  r:=by rw[aA _ _ (bJ (by decide))];exact b9 _ _ _
  ls:=by rw[q 4 0 (by decide) (by decide)];exact h.ls
  lw:=by rw[q 5 0 (by decide) (by decide)];exact h.lw
  v:=fun i x m b e=>by rw[q 6 i (by decide) (by decide),q 7 i (by decide) (by decide)];exact h.v i x m b e
  l:=fun i x m b e=>by rw[q 8 i (by decide) (by decide),q 9 i (by decide) (by decide)];exact c.l i x m b e
  fit:=En h.fit z t
  len:=⟨c.len.1,by have:=h.len.2.1;show(M.reg++[(u,z1)]).length<=_;rw[XC];show _+1<=_;omega,c.len.2.2⟩
  rng:=h.rng }
theorem zaN(M:Mc)(A C D:Int)(c t:Xr)(w:World)(h:cU w b s M S)(X:S<=1073741824)(L:c.size<=1073741824)(N:t.size<=1073741824) :
  Calls prog 10 #[pointer (some ⟨b,0,none⟩),agg #[int i64 2,int i64 A,int i64 C,int i64 D,string c,string t]] w fun e P=>jS b s M S true e P:=by
 obtain⟨W,x⟩:=aP (w.alloc (.cells #[int i64 2,int i64 A,int i64 C,int i64 D,string c,string t] 28));obtain⟨a,z,J,-⟩:=h.boxed 2 A C D c t W x.o;obtain⟨Y,Z,o2,o3,o4,o5,oz⟩:=dG z;obtain⟨O,q,j,k,l⟩:=XV Ez;have R:=ah a.Zbx;have T:W.cell? ⟨b,2,none⟩=some (slice M.hr.ao M.reg.length M.hr.cap):=by rw[ab a.Zbx];rfl
 have v:Xq (cU W b s M S):=a;have m:=a.ownR;have p:Xq ((dq M.reg).n<=4294967296):=by show M.reg.length<=_;have:=h.len.2.1;omega
 have f:Xq ((dq M.reg).n=M.reg.length):=rfl;have d:Xq (b∉M.hr.Zbx.toList):=fun K=>a.sep.far (0,0) (3,0) (bJ (by decide)) b (by rw[a.w0];exact XH.2 rfl) (by rw[a.r];exact K);clear h a z;go_enter func10,ntmps10;go_upto_region 1 with fail
 rw[x.o];go_upto_region 9 with fail
 go_region_law (refine xY W rfl (.tmp 51) (.tmp 57) 33 rfl O (agg #[string ⟨#[]⟩,string ⟨#[]⟩]) 32 M.hr (dq M.reg) (WZ (c,t)) underlying33 q j k l rfl Zaz (by rw[f.o];simp[Act.eval]) m p.o (by omega) (by simp[Act.eval]) rfl (Pk (c,t)) ?_;intro G y Q i g;have u:=g.Zbw.get v.o.Zbx d.o;have V:=zcW u 2;have U:Q.cell? ⟨b,2,none⟩=some (slice M.hr.ao M.reg.length M.hr.cap):=(by rw[ab u];rfl);have z5:=ah u)
 all_goals
  rw[Bb]at i;have B:Xq _:=v.o.addR g i L N;rw[f.o];go_wp2;go_ret;obtain⟨E,F,H,I⟩:=B.o;exact⟨rfl,E,F,H,I⟩
theorem zaE:(prog.info? 46).map (fun i=>(i.zero,i.size,i.bytes))=some (some (pointer none),1,8):=by kernel_rfl
theorem zaB:(prog.info? 47).map (fun i=>(i.zero,i.size,i.bytes))=some (some (pointer none),1,8):=by kernel_rfl
theorem Dr(L:Xu)(x:Nat):(⟨(nk S L).e,(nk S L).size,(nk S L).n+1,(nk S L).xs++[V9 x]⟩:eD)=nk S (L++[x]):=by
 simp[nk]
theorem cU.addV{J:Nat×Nat->It}{M:Mc}(h:cU f w d M H)(b:J=gC (gC d (6,M.V.length) (itV o [] 0 0 none)) (7,M.V.length) (itR y5 ⟨none,0⟩ [] 0 0 none))(q:qq D (gC (gC (gC (gC J (1,0) (de I (nk 46 (M.V.map (·.1)++[o])))) (0,0) (vk w 42 (M.cells.set 0 (slice I.ao (M.V.length+1) I.cap)))) (2,0) (de z3 (nk 47 (M.V.map (·.2.1)++[y5])))) (0,0) (vk w 42 ((M.cells.set 0 (slice I.ao (M.V.length+1) I.cap)).set 1 (slice z3.ao (M.V.length+1) z3.cap))))) :
  ∃k n,cU D w k n (H+1)/\uT d M k n:=by
 refine⟨_,{ M with hx:=I,hm:=z3,V:=M.V++[(o,y5,[])] },⟨q,?_,?_,?_,?_,?_,?_,?_,?_,?_,?_,?_⟩,?_⟩
 ·rw[b9];unfold Mc.cells;rw[XC];rfl
 ·rw[aA _ _ (bJ (by decide)),aA _ _ (bJ (by decide)),aA _ _ (bJ (by decide)),b9,Yj];rfl
 ·rw[aA _ _ (bJ (by decide)),b9,Yj];rfl
 ·subst b;simp only[gC];exact h.r
 ·subst b;simp only[gC];exact h.ls
 ·subst b;simp only[gC];exact h.lw
 ·intro i x m c a;rw[aA _ _ (bJ (by decide)),aA _ _ (bJ (by decide)),aA _ _ (bJ (by decide)),aA _ _ (bJ (by decide)),aA _ _ (bJ (by decide)),aA _ _ (bJ (by decide)),aA _ _ (bJ (by decide)),aA _ _ (bJ (by decide))];replace a:(M.V++[(o,y5,[])])[i]?=some (x,m,c):=a;subst b;by_cases e:i<M.V.length
  ·rw[XP e]at a;rw[aA _ _ (bJ (by decide)),aA _ _ (xG (by omega)),aA _ _ (xG (by omega)),aA _ _ (bJ (by decide))];exact h.v i x m c a
  ·have p:i=M.V.length:=by
    have:=(XL.1 a).1;rw[XC]at this;have:i<M.V.length+1:=this;omega
   subst p;rw[XO (Xy _),YA]at a;cases a
   rw[aA _ _ (bJ (by decide)),b9,b9];exact⟨⟨none,⟨none,0⟩,0,0,0,0,rfl,rfl⟩,fun j g=>by cases g⟩
 ·intro i x m c a;subst b;simp only[gC];exact h.more.l i x m c a
 ·exact h.fit
 ·refine⟨?_,h.more.len.2.1,h.more.len.2.2⟩;have:=h.len.1
  show(M.V++[(o,y5,[])]).length<=_
  rw[XC];show _+1<=_;omega
 ·exact h.rng
 ·subst b;exact⟨fun j i g=>by(repeat rw[rP (by decide) g]),rfl,rfl⟩
theorem zaM(M:Mc)(A C D:Int)(ap t:Xr)(w:World)(h:cU w b s M S)(hN:S<=1073741824) :
  Calls prog 10 #[pointer (some ⟨b,0,none⟩),agg #[int i64 1,int i64 A,int i64 C,int i64 D,string ap,string t]] w fun e w'=>jS b s M S true e w':=by
 obtain⟨W,HW⟩:=aP (w.alloc (.cells #[int i64 1,int i64 A,int i64 C,int i64 D,string ap,string t] 28));obtain⟨hM,hB,aq,-⟩:=h.boxed 1 A C D ap t W HW.o;obtain⟨o0,-⟩:=dG hB;obtain⟨iX,an,O,P,Q⟩:=XV zaE;obtain⟨iM,am,K,L,N⟩:=XV zaB;have r:Xq (cU W b s M S):=hM;have al:Xq ((nk 46 (M.V.map (·.1))).n<=4294967296):=by show(M.V.map _).length<=_;rw[XZ];have:=h.len.1;omega
 have ai:Xq ((nk 47 (M.V.map (·.2.1))).n<=4294967296):=by show(M.V.map _).length<=_;rw[XZ];have:=h.len.1;omega
 have B:Xq ((nk 46 (M.V.map (·.1))).n=M.V.length):=XZ _;have y:Xq ((nk 47 (M.V.map (·.2.1))).n=M.V.length):=XZ _;clear h hM hB;go_enter func10,ntmps10;go_upto_region 1 with fail
 rw[HW.o];go_upto_region 5 with (go_at_call 26;refine Xx (VR W) ?_;rintro e T ⟨rfl,hX,k1⟩)
 have S1:Xq _:=r.o.sep.put (6,M.V.length) (itV W.heap.size [] 0 0 none) (k1.mono (by simp)) ⟨XX _,hX⟩ (fun q k=>XK (by rcases Yd.1 k with e | e;exact Y5 e.symm;exact absurd (pR.1 e).2 (Zh _)));go_upto_region 6 with (go_at_call 27;refine Xx (OF T) ?_;rintro e w2 ⟨rfl,hY,k2⟩)
 have S2:Xq _:=(S1.o.put (7,M.V.length) (itR T.heap.size ⟨none,0⟩ [] 0 0 none) (k2.mono (by simp)) ⟨XX _,_,_,_,hY⟩ (fun q k=>XK (by rcases Yd.1 k with e | e;exact Y5 e.symm;exact absurd (pR.1 (show q∈jA 0 0 from e)).2 (Zh _))));have a:Xq _:=(r.o.Zbj k1).Zbj k2;clear hX hY k1 k2;have c0:w2.cell? ⟨b,0,none⟩=some (slice M.hx.ao M.V.length M.hx.cap):=by rw[ab a.o.Zbx];rfl
 have F:=a.o.ownX;have v:Xq (b∉M.hx.Zbx.toList):=fun k=>a.o.sep.far (0,0) (1,0) (bJ (by decide)) b (by rw[a.o.w0];exact XH.2 rfl) (by rw[a.o.x];exact k);obtain⟨J,p⟩:∃J,Xq (J=gC (gC s (6,M.V.length) (itV W.heap.size [] 0 0 none)) (7,M.V.length) (itR T.heap.size ⟨none,0⟩ [] 0 0 none)):=⟨_,rfl⟩
 rw[<-p.o]at S2;have ad:Xq (J (0,0)=vk b 42 M.cells):=cm (by rw[p.o,aA _ _ (bJ (by decide)),aA _ _ (bJ (by decide))];exact r.o.w0);have af:Xq (J (1,0)=de M.hx (nk 46 (M.V.map (·.1)))):=cm (by rw[p.o,aA _ _ (bJ (by decide)),aA _ _ (bJ (by decide))];exact r.o.x);have ag:Xq (J (2,0)=de M.hm (nk 47 (M.V.map (·.2.1)))):=cm (by rw[p.o,aA _ _ (bJ (by decide)),aA _ _ (bJ (by decide))];exact r.o.m);obtain⟨X,z⟩:=aP (W.heap.size);obtain⟨Y,E⟩:=aP (T.heap.size);rw[z.o,E.o]at p;rw[z.o,E.o];go_upto_region 7 with (at_builtin;refine dL w2 rfl (.tmp 29) (.tmp 31) 31 rfl iX (pointer none) 8 M.hx (nk 46 (M.V.map (·.1))) [V9 X] underlying31 an O P Q rfl XR (by rw[B.o];simp[Act.eval]) F al.o (by omega) (by simp[Act.eval]) rfl (by simp[V9,Value.oneCell']) ?_;intro c w5 l j;rw[Dr]at l;have R:=j.Zbw.get a.o.Zbx v.o;have f5:=zcW R;have c5:w5.cell? ⟨b,0,none⟩=some (slice M.hx.ao M.V.length M.hx.cap):=(by rw[ab R];rfl);have z5:=ah R)
 rw[B.o];have u:Xq _:=(S2.o.grown ad.o (bJ (by decide)) af.o j l 0 (slice c.ao (M.V.length+1) c.cap));obtain⟨U,ac⟩:=aP (w5.setCell ⟨b,0,none⟩ (slice c.ao (M.V.length+1) c.cap));rw[ac.o]at u ⊢;have d:Xq _:=b9 (gC J (1,0) (de c (nk 46 (M.V.map (·.1)++[X])))) (0,0) (vk b 42 (M.cells.set 0 (slice c.ao (M.V.length+1) c.cap)));obtain⟨J6,g⟩:=aP (gC (gC J (1,0) (de c (nk 46 (M.V.map (·.1)++[X])))) (0,0) (vk b 42 (M.cells.set 0 (slice c.ao (M.V.length+1) c.cap))));have i:Xq (J6 (2,0)=de M.hm (nk 47 (M.V.map (·.2.1)))):=cm (by rw[<-g.o,aA _ _ (bJ (by decide)),aA _ _ (bJ (by decide))];exact ag.o);rw[g.o]at u d;have b6:U.heap[b]?=some (.cells (M.cells.set 0 (slice c.ao (M.V.length+1) c.cap)).toArray 42):=by
  have:=u.o.all (0,0);rw[d.o]at this;exact this
 have Z:Xq _:=b6;have G:aD U M.hm (nk 47 (M.V.map (·.2.1))):=by
  have:=u.o.all (2,0);rw[i.o]at this;exact this
 have f:Xq (b∉M.hm.Zbx.toList):=fun k=>u.o.far (0,0) (2,0) (bJ (by decide)) b (by rw[d.o];exact XH.2 rfl) (by rw[i.o];exact k);clear R f5 c5 z5 l j c0 F;have c1:U.cell? ⟨b,1,none⟩=some (slice M.hm.ao M.V.length M.hm.cap):=by rw[ab b6];rfl
 clear b6;go_wp2_with (at_builtin;refine dL U rfl (.tmp 39) (.tmp 41) 32 rfl iM (pointer none) 8 M.hm (nk 47 (M.V.map (·.2.1))) [V9 Y] underlying32 am K L N rfl XR (by rw[y.o];simp[Act.eval]) G ai.o (by omega) (by simp[Act.eval]) rfl (by simp[V9,Value.oneCell']) ?_;intro h7 w7 I H;rw[Dr]at I;have p7:=H.Zbw.get Z.o f.o;have f7:=zcW p7;have c7:w7.cell? ⟨b,1,none⟩=some (slice M.hm.ao M.V.length M.hm.cap):=(by rw[ab p7];rfl);have z7:=ah p7;rw[y.o]);go_ret;have S7:=u.o.grown d.o (bJ (by decide)) i.o H I 1 (slice h7.ao (M.V.length+1) h7.cap);rw[<-g.o]at S7;exact⟨rfl,r.o.addV p.o S7⟩
end Go.Proofs.YtpdholcaobgofaaGreat

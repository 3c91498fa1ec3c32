import Derived.Deep.RegionHeld3
import Derived.Deep.RegionLaw
import Derived.Deep.CutRange
import Derived.Test.YtnbhnocdhbcbcaaGreatG27
import Derived.Test.YtnbhnocdhbcbcaaGreatG29
namespace Go.Proofs.YtnbhnocdhbcbcaaGreat
open Go.RowKit Tryz
open Value IntKind Ending
set_option maxHeartbeats 0
variable{w f x y2:Nat}{y3:List St}{zt:Nat->Hd}{b y:World}{z4:List Nat}{S:Fs}{k:Option Nat}{d g:Hd}{y4:Int}{M N:ByteArray}{n:Nat×Nat->It}{z1:Nat×Nat}{ya y6:eB}{y7:List Value}{z2:Program}{y8:Array Oper}{z0:Oper}{z6:Act}{y9:Exit->Act->World->Prop}(a:Nat)(y5:Fs)(D L:ByteArray)(T:Fs)(z3:Hd)(y0:Nat)(I:List Tk)(o:List Sm)(l:Nat)(y1:Option Nat)(zb:Option Addr)(H:Nat)(v:World)(i:Nat×Nat->It)
structure Ro(T:List Tk)(S:List Sm)(RS:List fO):Prop where
 len:RS.length=S.length
 yes:∀a,a<S.length->ay (aq S a).k=true->(bne (eR RS a).Wk 0)=true/\(eR RS a).label=bN T (aq S a)
 no:∀a,a<S.length->ay (aq S a).k=false->(bne (eR RS a).Wk 0)=false
theorem FW(P:List cW)(a:ByteArray)(t:Tk):∀(f k:Nat) (M:List (List ByteArray)),(bne (nE I o H P a t f k M).Wk 0)=true/\(nE I o H P a t f k M).label=a:=by
 intro f
 induction f with
 | zero =>
  intro k M;unfold nE sB
  repeat' split
  all_goals exact⟨rfl,rfl⟩
 | succ f b =>
  intro k M;unfold nE
  repeat' split
  all_goals first
   | exact⟨rfl,rfl⟩
   | exact b _ _
theorem Bk(p:jM)(t:Tk):(bne (lh I o H p t).Wk 0)=true/\(lh I o H p t).label=bN I (aq o H):=by
 unfold lh;split
 ·exact⟨rfl,rfl⟩
 ·split
  ·exact⟨rfl,rfl⟩
  ·exact FW I o H _ _ t _ _ _
theorem zC:(ay (aq o H).k=true->(bne (mS I o (Bu I o) H).Wk 0)=true/\(mS I o (Bu I o) H).label=bN I (aq o H))/\(ay (aq o H).k=false->(bne (mS I o (Bu I o) H).Wk 0)=false):=by
 unfold mS ay;cases a:Mk o H
 ·cases b:mR o H
  ·unfold Mk at a;unfold mR at b;rw[a,b];exact⟨(fun h=>by cases h),fun _=>rfl⟩
  ·unfold mR at b;rw[b,V7];refine⟨fun _=>?_,fun h=>by cases h⟩;exact Bk I o H _ _
 ·unfold Mk at a;rw[a,UC];exact⟨fun _=>⟨rfl,rfl⟩,fun h=>by cases h⟩
theorem oK.tell{T:List Tk}{S:List Sm}{j:List (jM×Hd)}{g:List fO}(h:oK S j ((List.range S.length).map (mS T S (Bu T S))) g S.length):Ro T S g:=by
 have p:g.length=S.length:=by rw[h.len,Sn,Ul]
 have d:∀a,a<S.length->eR ((List.range S.length).map (mS T S (Bu T S))) a=mS T S (Bu T S) a:=fun a b=>by
  unfold eR;rw[RT,Sy,Un b];rfl
 have f:∀a,a<S.length->(eR g a).label=(mS T S (Bu T S) a).label/\(bne (eR g a).Wk 0)=(bne (mS T S (Bu T S) a).Wk 0):=fun a b=>by
  by_cases c:(eR ((List.range S.length).map (mS T S (Bu T S))) a).Wk=4/\pv S j ((List.range S.length).map (mS T S (Bu T S))) a
  ·have e:=h.yes a b c.1 c.2;have k:=c.1;rw[d a b]at e k;rw[e];exact⟨rfl,by simp only;rw[k];rfl⟩
  ·rw[h.no a b c,d a b];exact⟨rfl,rfl⟩
 refine⟨p,fun a b i=>?_,fun a b i=>?_⟩
 ·obtain⟨l,m⟩:=f a b;obtain⟨n,o⟩:=(zC T S a).1 i;exact⟨by rw[m];exact n,by rw[l];exact o⟩
 ·rw[(f a b).2];exact(zC T S a).2 i
def pF(RS:List fO):List fO:=RS.filter (fun r=>bne r.Wk 0)
theorem Dm(r:fO):∀u∈gx r,u.oneCell'=true:=by
 intro u a;simp only[gx,List.mem_cons,List.not_mem_nil,or_false]at a;rcases a with rfl | rfl | rfl | rfl | rfl | rfl <;> rfl
theorem Kb(c d f g:Value)(w:World)(a:w.heap[H]?=some (.cells #[c,bool false,d,f,g] 85)) :
  Calls prog 23 #[pointer (some ⟨H,0,none⟩)] w fun e b=>e=returned (slice none 0 0)/\b=w:=by
 obtain⟨-,i,-⟩:=nR a;have j:=ae a;clear a;go_enter func23,ntmps23;go_wp2;go_ret;exact⟨rfl,rfl⟩
def NO(RS:List fO)(w:World)(e:Ending)(w':World):Prop:=∃h',e=returned (slice h'.ao (pF RS).length h'.cap)/\jd w w' h' (bZ (pF RS))
set_option maxRecDepth 100000
theorem Ka(a:List fO)(C:Option Addr)(D:Nat)(x0 x2 x3:Value)(w:World)(x:w.heap[H]?=some (.cells #[x0,bool true,x2,x3,slice C a.length D] 85))(P:cG w C 6 gx a)(hl:a.length<=100000) :
  Calls prog 23 #[pointer (some ⟨H,0,none⟩)] w fun e w'=>NO a w e w':=by
 obtain⟨-,v1,-⟩:=nR x;have S:=ae x;have U:Hid _:=x;have T:=(show Hid (cG w C 6 gx a) from P);have B:Hid (jd w w ⟨none,0⟩ (bZ (pF (a.take 0)))):=⟨Sb _ _ _ _,(by intro k Q;cases Q),aa.refl _ _⟩;obtain⟨iR,G,s,t,u⟩:=Sr GN;clear x P;go_enter func23,ntmps23;go_wp2;clear v1 S
 go_loopg [3,4] a.length (fun g o i wr=>∃(k:Nat) (c:Hd) (L:List fO),k<=a.length/\g=a.length-k/\o=slice c.ao L.length c.cap/\i=int i64 k/\L.length<=k/\Hid (L=pF (a.take k))/\Hid (jd w wr c (bZ L)))
 case atStart=>exact⟨0,⟨none,0⟩,[],by omega,rfl,rfl,rfl,RV _,rfl,B⟩
 case round =>
  obtain⟨k,c,L,Q,hg,rfl,rfl,ac,v,j⟩:=hrel;have m:Hid _:=(j.out.kept.get U.out (by simp));obtain⟨-,-,-,-,v4⟩:=nR m.out;have S:=ae m.out;by_cases q:k<a.length
  ·have af:(k:Int)<a.length:=(by omega);obtain⟨g0,rfl,ad,d⟩:=(cG.Wj T.out j.out.kept) k _ (RQ q);have O:=d 0 _ rfl;have V:=d 1 _ rfl;have W:=d 2 _ rfl;have X:=d 3 _ rfl;have Y:=d 4 _ rfl;have Z:=d 5 _ rfl;rw[Ui]at O;have b:Hid (pF (a.take (k+1))=L++(if(bne a[k].Wk 0)=true then [a[k]] else [])):=by
    show _=_;rw[v.out];unfold pF;rw[VM,RQ q,Tf];congr 1;cases h:(bne a[k].Wk 0) <;> simp[h]
   clear d;generalize a[k]=r at *;obtain⟨K,y,N,J,M,I⟩:=r;simp only at b O V W X Y Z;cases R:(y != 0)
   ·have z:Hid (L=pF (a.take (k+1))):=(by show _=_;rw[b.out,R,RU (by simp),Su]);go_wp2;go_roundg (a.length-(k+1))
    case measure=>omega
    case rel=>exact⟨k+1,c,L,by omega,rfl,rfl,by go_num,by omega,z,j⟩
   ·have z:Hid (L++[⟨K,y,N,J,M,I⟩]=pF (a.take (k+1))):=(by show _=_;rw[b.out,R,RY rfl]);have E:=j.out.own;have F:Hid ((bZ L).n<=900000000):=(by show L.length<=_;omega);have l:Hid ((bZ L).n=L.length):=rfl;go_wp2_with (at_builtin;refine ci wr rfl (.tmp 28) (.tmp 36) 54 rfl iR (agg #[string ⟨#[]⟩,int i64 0,int i64 0,string ⟨#[]⟩,int i64 0,int i64 0]) 64 c (bZ L) (gx ⟨K,y,N,J,M,I⟩) underlying54 G s t u rfl (show 0<6 by omega) (by rw[l.out];simp[Act.eval]) E F.out (by omega) (by simp[Act.eval]) rfl (Dm _) ?_;intro h5 w5 f p;rw[bZ,jH]at f;have A:Hid _:=j.out.Wt p f;clear f p);go_roundg (a.length-(k+1))
    case measure=>omega
    case rel=>exact⟨k+1,h5,L++[(⟨K,y,N,J,M,I⟩:fO)],by omega,rfl,by rw[l.out,R9];rfl,by go_num,by rw[R9];show _+1<=_;omega,z,A⟩
  ·have e:k=a.length:=(by omega);subst e;have ag:¬(a.length:Int)<a.length:=by omega
   rw[Tr]at v;go_wp2;go_ret;exact⟨c,by rw[<-v.out];rfl,by rw[<-v.out];exact j.out⟩
def zp(bo:Option Nat):Option Addr:=bo.map (fun b=>⟨b,0,none⟩)
def iy(lo hi:Nat):List Nat:=List.range' lo (hi-lo)
theorem nM:x∈iy w f ↔ w<=x/\x<f:=by
 unfold iy;rw[List.mem_range'_1];omega
def QN(l:List St)(H:Nat->Hd)(q:Nat):Prop:=(H 6).blk=some q∨∃i s,l[i]?=some s/\((H (10+2*i)).blk=some q∨(H (11+2*i)).blk=some q)
theorem QN.inH(h:QN y3 zt w):gO zt w:=by
 rcases h with h | ⟨i,s,-,h | h⟩
 ·exact⟨6,h⟩
 ·exact⟨_,h⟩
 ·exact⟨_,h⟩
theorem hQ.ltU(h:hQ b y3 zt)(u:QN y3 zt w):w<b.heap.size:=by
 rcases u with u | ⟨i,s,a,u | u⟩
 ·exact h.own.lt u
 ·exact(h.syms i s a).lt u
 ·exact(h.prfs i s a).lt u
theorem hQ.keptU(h:hQ b y3 zt)(k:aa z4 b y)(d:∀x,QN y3 zt x->x∉z4):hQ y y3 zt :=
 ⟨h.own.Wo (fun x a=>k.block x (h.own.lt a) (d x (R4 a))),fun i s c=>(h.syms i s c).Wo (fun x a=>k.block x ((h.syms i s c).lt a) (d x (RZ ⟨i,s,c,R4 a⟩))),fun i s c=>(h.prfs i s c).Wo (fun x a=>k.block x ((h.prfs i s c).lt a) (d x (RZ ⟨i,s,c,RZ a⟩)))⟩
def Rg(w:World)(x:Nat)(fs:Fs)(lo hi:Nat):Option Nat->Prop
 | none=>kg w x fs
 | some k=>(k<fs.length/\((gn fs k).1==0)=true)/\∃H g,wj w x fs (cv fs k).2.2.Wv H g/\(lo<=g/\g<hi)/\∀q,QN (cv fs k).2.2.Wv H q->lo<=q/\q<hi
structure dJ(w:World)(x:Nat)(fs:Fs)(lo hi:Nat)(st:Option Nat):Prop where
 z:hi<=w.heap.size
 s:Rg w x fs lo hi st
def Rd(w:World)(v:Nat)(fs:Fs)(h:Hd)(lo hi:Nat):Option Nat->Prop
 | none=>∃p2 p3 p4,fX w v fs h false p2 p3 p4
 | some k=>yn w v fs h (cZ fs k).1 lo hi
structure dA(w:World)(v:Nat)(fs:Fs)(h:Hd)(lo hi:Nat)(st:Option Nat):Prop where
 z:hi<=w.heap.size
 s:Rd w v fs h lo hi st
theorem dJ.anyS(a:dJ b w S f x k):lE b w S:=by
 have:=a.s;cases k with
 | none=>exact kg.anyR this
 | some c=>obtain⟨-,H,g,h,-⟩:=this;exact h.anyR
theorem dA.anyS(a:dA b w S d f x k):∃c e g i,fX b w S d c e g i:=by
 have:=a.s;cases k with
 | none=>exact⟨false,this⟩
 | some j=>exact⟨true,yn.rvAt this⟩
theorem dJ.kept(a:dJ b w S f x k)(c:aa z4 b y)(e:∀q,q∈w :: iy f x->q∉z4):dJ y w S f x k:=by
 refine⟨Sc a.z c.size,?_⟩;have n:=e w Sz;have l:∀q,f<=q/\q<x->q∉z4:=fun q d=>e q (Sx _ (nM.2 d));have:=a.s;cases k with
 | none=>exact kg.kept this c n
 | some j =>
  obtain⟨r,H,g,h,i,m⟩:=this;obtain⟨o,u,p,t⟩:=h.ver;exact⟨r,H,g,⟨⟨o,u,p,bF.kept t c n⟩,h.Wv.keptU c (fun q d=>l q (m q d)),c.get h.arr (l g i),h.far⟩,i,m⟩
theorem dA.kept(a:dA b w S d f x k)(e:aa z4 b y)(c:∀q,q∈w :: (d.blk.toList++iy f x)->q∉z4):dA y w S d f x k:=by
 refine⟨Sc a.z e.size,?_⟩;have i:=c w Sz;have g:∀q,d.blk=some q->q∉z4:=fun q n=>c q (Sx _ (Ti _ (by rw[n];simp)));have o:∀q,f<=q->q<x->q∉z4:=fun q l m=>c q (Sx _ (Tz _ (nM.2 ⟨l,m⟩)));have:=a.s;cases k with
 | none=>obtain⟨p,t,u,r⟩:=this;exact⟨p,t,u,r.keptS e i g⟩
 | some j=>exact yn.kept this e i g o
theorem dA.Wj(a:dA b w S d f x k)(e:aa [] b y):dA y w S d f x k:=a.kept e (fun _ _ c=>by cases c)
theorem dJ.Wj(a:dJ b w S f x k)(d:aa [] b y):dJ y w S f x k:=a.kept d (fun _ _ c=>by cases c)
theorem dJ.lt(a:dJ b w S f x k)(q:Nat)(c:q∈w :: iy f x):q<b.heap.size:=by
 rcases Sv.1 c with e | e
 ·rw[e];exact a.anyS.lt
 ·have:=nM.1 e;have:=a.z;omega
theorem dA.lt{h:Hd}(a:dA b w S h f x k)(q:Nat)(c:q∈w :: (h.blk.toList++iy f x)):q<b.heap.size:=by
 obtain⟨g,i,j,l,r⟩:=a.anyS;rcases Sv.1 c with e | e
 ·rw[e];exact ae r.d
 ·rcases SB.1 e with e | e
  ·exact r.own.lt (aQ e)
  ·have:=nM.1 e;have:=a.z;omega
theorem dJ.same(a:dJ b w S f x k):∃d m n o,je b w S d m n o/\∀e,je e w S d m n o->aa [w] b e->dJ e w S f x k:=by
 have h:=a.s;cases k with
 | none=>exact⟨_,_,_,_,h,fun e i c=>⟨Sc a.z c.size,i⟩⟩
 | some j =>
  obtain⟨u,H,g,r,v,A⟩:=h;obtain⟨p,B,t,i⟩:=r.ver;refine⟨_,_,_,_,i,fun e l c=>⟨Sc a.z c.size,u,H,g,⟨⟨p,B,t,l⟩,r.Wv.keptU c (fun q y=>by simp;exact r.far.2 q y.inH),c.get r.arr (by simp;exact Ne.symm r.far.1),r.far⟩,v,A⟩⟩
def mG(c:Int)(st:Option Nat):Option Nat:=if c=0 then none else st
theorem qC(h:y4=0):mG y4 k=none:=RY h
theorem sQ(h:y4≠0):mG y4 k=k:=RU h
theorem G0(h:(fm S M N).1≠0):(fm S M N).2=S:=by
 unfold fm at h ⊢;split
 ·rfl
 ·next c =>
  rw[RU c]at h;split
  ·next a=>rw[RY a]at h;exact absurd rfl h
  ·next a =>
   rw[RU a]at h;split
   ·rfl
   ·next b=>rw[RU b]at h;exact absurd rfl h
theorem OP(h:dJ v a T y0 l y1)(g:D.size<=1073741824)(f:L.size<=4294967296) :
  Calls prog 15 #[pointer (some ⟨a,0,none⟩),string D,string L] v fun e c=>e=returned (int i64 (fm T D L).1)/\dJ c a (fm T D L).2 y0 l (mG (fm T D L).1 y1)/\aa [a] v c:=by
 by_cases b:(fm T D L).1=0
 ·refine(NE a D L T v h.anyS g f).mono (fun e c q=>⟨q.1,?_,q.2.2.2⟩);rw[qC b];exact⟨Sc h.z q.2.2.2.size,q.2.2.1 b⟩
 ·obtain⟨d,m,n,o,k,j⟩:=h.same;refine(Pf a D L T d m n o v k g f b).mono (fun e c q=>⟨q.1,?_,q.2.2⟩);have i:=q.2.1;rw[G0 b]at i ⊢;rw[sQ b];exact j c i q.2.2
theorem C3(i g:Nat)(j:Option Nat)(w:World)(h:dJ w a y5 i g j)(k:lk w zb T)(d:lr T) :
  Calls prog 31 #[pointer (some ⟨a,0,none⟩),slice zb T.length H] w fun e c=>e=returned (int i64 (dF T))/\dJ c a (jK y5 T) i g (mG (dF T) j)/\aa [a] w c:=by
 obtain⟨f,p,r,s,m,l⟩:=h.same;refine(KE a y5 T f p r s zb H w m k d).mono (fun e c q=>⟨q.1,?_,q.2.2⟩);obtain⟨n,o⟩:=q.2.1;by_cases b:dF T=0
 ·rw[qC b];exact⟨Sc h.z q.2.2.size,n b⟩
 ·have:=o b;rw[p9 rfl b]at this ⊢;rw[sQ b];exact l c this q.2.2
theorem NZ(d:dA v a T z3 y0 l y1)(n:D.size<=1073741824)(j:L.size<=4294967296) :
  Calls prog 16 #[pointer (some ⟨a,0,none⟩),string D,string L] v fun e i=>e=returned (int i64 (fm T D L).1)/\∃c,dA i a (fm T D L).2 c y0 l (mG (fm T D L).1 y1)/\aa (a :: z3.blk.toList) v i/\∀q,c.blk=some q->z3.blk=some q∨v.heap.size<=q:=by
 obtain⟨o,p,s,t,r⟩:=d.anyS;refine(JN a T z3 o p s t D L v r n j).mono (fun e i q=>⟨q.1,?_⟩);by_cases b:(fm T D L).1=0
 ·obtain⟨c,u,g⟩:=q.2.1 b;rw[qC b];refine⟨c,⟨Sc d.z g.kept.size,_,_,_,u⟩,g.kept,fun q f=>?_⟩;rcases g.blk with e | ⟨w,e,m⟩
  ·exact R4 (by rw[<-e];exact f)
  ·rw[e]at f;cases f;exact RZ m
 ·have k:=q.2.2 b;rw[sQ b,G0 b];exact⟨z3,d.Wj k,k.mono (by simp),fun _ e=>R4 e⟩
theorem Ca(d:dA v a y5 z3 y0 l y1)(n:nH v zb H T)(p:zb=none->T.length=0/\H=0)(o:∀m,zb=some m->∃g,m=⟨g,0,none⟩)(f:∀j,j<T.length->(aD T j).size<=1073741824/\(ak T j).size<=1073741824) :
  Calls prog 32 #[pointer (some ⟨a,0,none⟩),slice zb T.length H] v fun e i=>e=returned (int i64 (dF T))/\∃c,dA i a (jK y5 T) c y0 l (mG (dF T) y1)/\aa (a :: z3.blk.toList) v i/\∀q,c.blk=some q->z3.blk=some q∨v.heap.size<=q:=by
 obtain⟨t,u,w,x,r⟩:=d.anyS;refine(EQ a y5 T z3 t u w x zb H v r n p o f).mono (fun e i q=>⟨q.1,?_⟩);by_cases b:dF T=0
 ·obtain⟨c,y,g,s⟩:=q.2.1 b;rw[qC b];exact⟨c,⟨Sc d.z g.size,_,_,_,y⟩,g,s⟩
 ·have k:=q.2.2 b;rw[sQ b,p9 rfl b];exact⟨z3,d.Wj k,k.mono (by simp),fun _ e=>R4 e⟩
theorem Ch(a:T.length<=4)(b:∀j,j<T.length->(ak T j).size<=1024)(d:H<T.length)(h:((gn T H).1==0)=true):gn T H=cM:=by
 have f:=h;unfold gn at h;split at h
 ·next c =>
  have e:(LR (za (cZ T H).1 (ab (cZ T H).1))).1=(za (cZ T H).1 (ab (cZ T H).1)).rule:=rfl;rw[e,c]at h;cases h
 ·next c =>
  exact(wP T H a b d (by cases q:((za (cZ T H).1 (ab (cZ T H).1)).rule==0);exact absurd q c;rfl) h).1
def oc(z lo hi lo1 hi1:Nat):Prop:=(lo1=lo/\hi1=hi)∨z<=lo1
theorem oc.mem{z lo hi:Nat}(h:oc z lo hi w f)(a:x∈iy w f):x∈iy lo hi∨z<=x:=by
 rcases h with ⟨rfl,rfl⟩ | h
 ·exact R4 a
 ·exact RZ (Sc h (nM.1 a).1)
def Rt(w:World)(x:Nat)(fs:Fs)(lo hi:Nat)(f:oL)(q:Int)(st:Option Nat)(e:Ending)(w':World):Prop :=
 e=returned (tuple #[ij f,int i64 q])/\(∃lo1 hi1,dJ w' x fs lo1 hi1 st/\oc w.heap.size lo hi lo1 hi1)/\aa [x] w w'
def Rs(w:World)(m:Nat)(fs:Fs)(h:Hd)(lo hi:Nat)(f:oL)(q:Int)(st:Option Nat)(e:Ending)(w':World):Prop :=
 e=returned (tuple #[ij f,int i64 q])/\(∃lo1 hi1,dA w' m fs h lo1 hi1 st/\oc w.heap.size lo hi lo1 hi1)/\aa [m] w w'
theorem LA(a:Fs)(h:Hd)(D C o m:Nat)(F:Option Nat)(n:ByteArray)(w:World)(I:dJ w l a D C F)(x:a.length<=4)(p:∀j,j<a.length->(ak a j).size<=1024) :
  ∃(f:oL) (q:Int) (B:Option Nat),Calls prog 37 #[pointer (some ⟨l,0,none⟩),string n] w (fun e i=>Rt w l a D C f q B e i) /\
   ∀c,dA c H a h o m F->Calls prog 38 #[pointer (some ⟨H,0,none⟩),string n] c (fun e i=>Rs c H a h o m f q B e i):=by
 rcases pT n a with u | ⟨k,v,u⟩
 ·obtain⟨O,u0,u1,u2,W,V⟩:=I.same;refine⟨cM,5,F,(DI l a n O u0 u1 u2 w W (by rw[u];decide)).mono (fun e i q=>⟨q.1,⟨D,C,V i q.2.1 q.2.2,R4 ⟨rfl,rfl⟩⟩,q.2.2⟩),fun c d=>?_⟩;obtain⟨J,K,L,M,r⟩:=d.anyS;exact(yL H a h J K L M n c r (by rw[u];decide)).mono (fun e i q=>⟨q.1,⟨o,m,d.Wj q.2,R4 ⟨rfl,rfl⟩⟩,q.2.mono (by simp)⟩)
 ·obtain⟨P,-⟩:=wO a k x p v;have A:=FY l k a n w I.anyS u v p;have y:∀c,dA c H a h o m F->Calls prog 38 #[pointer (some ⟨H,0,none⟩),string n] c fun e i=>Rh a k H h (gn a k) (if((gn a k).1==0)=true then 0 else 6) c e i:=fun c d=>by
   obtain⟨J,K,L,M,r⟩:=d.anyS;exact Bo H k a h J K L M n c r u v p
  cases t:((gn a k).1==0)
  ·refine⟨gn a k,6,none,A.mono (fun e i q=>?_),fun c d=>(y c d).mono (fun e i q=>?_)⟩
   ·obtain⟨s,d⟩:=q;rw[P,t,RU (by simp)]at s;exact⟨s.1,⟨D,C,⟨Sc I.z d.size,s.2⟩,R4 ⟨rfl,rfl⟩⟩,d⟩
   ·rw[t,RU (by simp)]at q;obtain⟨N,⟨-,Z⟩,E⟩:=q;exact⟨N,⟨o,m,⟨Sc d.z E.size,Z (by decide)⟩,R4 ⟨rfl,rfl⟩⟩,E⟩
  ·refine⟨gn a k,0,some k,A.mono (fun e i q=>?_),fun c d=>(y c d).mono (fun e i q=>?_)⟩
   ·obtain⟨s,d⟩:=q;rw[P,t,RY rfl]at s;obtain⟨s,R,g,G,S,T⟩:=s;exact⟨by rw[s,Ch a k x p v t],⟨w.heap.size,i.heap.size,⟨RV _,⟨v,t⟩,R,g,G,⟨S,ae G.arr⟩,fun b Q=>⟨T b Q.inH,G.Wv.ltU Q⟩⟩,RZ (RV _)⟩,d⟩
   ·rw[t,RY rfl]at q;obtain⟨N,⟨Y,-⟩,E⟩:=q;obtain⟨X,U,r⟩:=Y rfl;exact⟨N,⟨X,i.heap.size,⟨RV _,r⟩,RZ U⟩,E⟩
structure Ru(w:World)(bo:Option Nat)(L:List ByteArray):Prop where
 nil:bo=none ↔ L=[]
 blk:∀b,bo=some b->w.heap[b]?=some (.cells (eS L).toArray 9)
theorem Oe(b:S.length<=4)(a:∀j,j<S.length->(ak S j).size<=1024)(i:w<S.length)(f:((gn S w).1==0)=true):qT (cZ S w).1 (cv S w).2.2/\(cZ S w).1.length<=10000/\fc (cZ S w).1:=by
 obtain⟨c,g⟩:=wO S w b a i;obtain⟨d,e⟩:=g (by rw[c];exact f);exact⟨d,e,Cn S w (tq a)⟩
def rU(b t:Nat)(c:List Value):It where
 B:=[b]
 P w:=w.heap[b]?=some (.cells c.toArray t)
 lt w h q hq:=by rw[Se.1 hq];exact ae h
 ok S w w' h k hb:=k.get h (hb b (by simp))
def cw(h:Hd)(r:eB):It where
 B:=h.blk.toList
 P w:=aC w h r
 lt w o q hq:=o.lt (aQ hq)
 ok S w w' o k hb:=o.Wo (fun q hq=>k.block q (o.lt hq) (hb q (by rw[hq];simp)))
def Qe(x:Nat)(fs:Fs)(lo hi:Nat)(st:Option Nat):It where
 B:=x :: iy lo hi
 P w:=dJ w x fs lo hi st
 lt _ a q hq:=a.lt q hq
 ok _ _ _ a k hb:=a.kept k hb
def Qd(v:Nat)(h:Hd)(fs:Fs)(lo hi:Nat)(st:Option Nat):It where
 B:=v :: (h.blk.toList++iy lo hi)
 P w:=dA w v fs h lo hi st
 lt _ a q hq:=a.lt q hq
 ok _ _ _ a k hb:=a.kept k hb
def zV(fs:Fs):Prop:=∀j,j<fs.length->(ak fs j).size<=1024
structure iZ(w:World)(bo:Option Nat)(fs:Fs):Prop where
 nil:bo=none->fs=[]
 blk:∀b,bo=some b->w.heap[b]?=some (.cells (ri fs).toArray 68)
def vn(bo:Option Nat)(fs:Fs):It where
 B:=bo.toList
 P w:=iZ w bo fs
 lt w a q hq:=by
  cases bo with
  | none=>cases hq
  | some b=>rw[VL,Se]at hq;rw[hq];exact ae (a.blk b rfl)
 ok S w w' a k hb:=⟨a.nil,fun b e=>k.get (a.blk b e) (hb b (by rw[e];simp))⟩
def AJ(x:Option Nat×Fs):Value:=slice (zp x.1) x.2.length x.2.length
def iz(l:List (Option Nat×Fs)):eB:=⟨33,1,l.length,l.map AJ⟩
def OQ(x:Nat):Value:=pointer (some ⟨x,0,none⟩)
def lQ(t:Nat)(l:List Nat):eB:=⟨t,1,l.length,l.map OQ⟩
structure Mc where
 hx:Hd
 hm:Hd
 hr:Hd
 hl:Hd
 hc:Hd
 V:List (Nat×Nat×Fs)
 reg:Fs
 L:List (Option Nat×Option Nat×Fs)
 a:Int
 n:Int
 e:Int
 u:Int
 s:ByteArray
 p:Int
 q:Int
 f:ByteArray
 i:Int
 j:Int
 qv:Value
 tv:Value
def Mc.cells(M:Mc):List Value:=[slice M.hx.ao M.V.length M.hx.cap,slice M.hm.ao M.V.length M.hm.cap,slice M.hr.ao M.reg.length M.hr.cap,slice M.hl.ao M.L.length M.hl.cap,slice M.hc.ao M.L.length M.hc.cap,int i64 M.a,int i64 M.n,int i64 M.e,int i64 M.u,string M.s,int i64 M.p,int i64 M.q,string M.f,int i64 M.i,int i64 M.j,M.qv,M.tv]
structure cd(w:World)(b:Nat)(I:Nat×Nat->It)(M:Mc)(N:Nat):Prop where
 sep:oN w I
 w0:I (0,0)=rU b 42 M.cells
 x:I (1,0)=cw M.hx (lQ 46 (M.V.map (·.1)))
 m:I (2,0)=cw M.hm (lQ 47 (M.V.map (·.2.1)))
 r:I (3,0)=cw M.hr (cK M.reg)
 ls:I (4,0)=cw M.hl (iz (M.L.map (fun l=>(l.1,l.2.2))))
 lw:I (5,0)=cw M.hc (iz (M.L.map (fun l=>(l.2.1,l.2.2))))
 v:∀i x m fs,M.V[i]?=some (x,m,fs)->(∃st h lo hi lo2 hi2,I (6,i)=Qe x fs lo hi st/\I (7,i)=Qd m h fs lo2 hi2 st)/\zV fs
 l:∀k a c fs,M.L[k]?=some (a,c,fs)->I (8,k)=vn a fs/\I (9,k)=vn c fs/\lr fs/\fs.length<=N
 fit:lr M.reg
 len:M.V.length<=N/\M.reg.length<=N/\M.L.length<=N
 rng:sG M.a/\sG M.n/\sG M.e
structure rH(I:Nat×Nat->It)(M:Mc)(I':Nat×Nat->It)(M':Mc):Prop where
 k:∀j i,10<=j->I' (j,i)=I (j,i)
 q:M'.qv=M.qv
 t:M'.tv=M.tv
theorem rH.refl(M:Mc):rH i M i M:=⟨fun _ _ _=>rfl,rfl,rfl⟩
theorem pm{a:It}(b:w<10)(c:10<=x):fw n (w,f) a (x,y2)=n (x,y2):=RM _ _ (bu (by omega))
theorem cd.Wj{M:Mc}(h:cd b w n M f)(k:aa [] b y):cd y w n M f:={ h with sep:=h.sep.Wj k }
theorem cd.more{M:Mc}(h:cd b w n M f):cd b w n M (f+1) :=
 { h with l:=fun k a c j e=>by obtain⟨d,g,i,m⟩:=h.l k a c j e;exact⟨d,g,i,by omega⟩,len:=by obtain⟨d,g,i⟩:=h.len;exact⟨by omega,by omega,by omega⟩ }
theorem cd.blk{M:Mc}(h:cd b w n M f):b.heap[w]?=some (.cells M.cells.toArray 42):=by
 have:=h.sep.all (0,0);rw[h.w0]at this;exact this
theorem cd.ownX{M:Mc}(h:cd b w n M f):aC b M.hx (lQ 46 (M.V.map (·.1))):=by have:=h.sep.all (1,0);rw[h.x]at this;exact this
theorem cd.ownM{M:Mc}(h:cd b w n M f):aC b M.hm (lQ 47 (M.V.map (·.2.1))):=by have:=h.sep.all (2,0);rw[h.m]at this;exact this
theorem cd.ownR{M:Mc}(h:cd b w n M f):aC b M.hr (cK M.reg):=by have:=h.sep.all (3,0);rw[h.r]at this;exact this
theorem cd.ownL{M:Mc}(h:cd b w n M f):aC b M.hl (iz (M.L.map (fun l=>(l.1,l.2.2)))):=by have:=h.sep.all (4,0);rw[h.ls]at this;exact this
theorem cd.ownC{M:Mc}(h:cd b w n M f):aC b M.hc (iz (M.L.map (fun l=>(l.2.1,l.2.2)))):=by have:=h.sep.all (5,0);rw[h.lw]at this;exact this
theorem oN.grow(s:oN b n)(e:n z1=cw d ya)(f:bI b y d g)(o:aC y g y6):oN y (fw n z1 (cw g y6)):=by
 refine s.put z1 _ (by rw[e];exact f.kept) o (fun q a=>?_);have a:=aQ a;rcases f.blk with c | ⟨j,c,i⟩
 ·left;rw[e];show q∈d.blk.toList;rw[<-c,a];simp
 ·right;rw[c]at a;cases a;exact i
theorem oN.turn{a:List Value}(s:oN b n)(e:n z1=rU w f y7)(g:aa [w] b y)(o:y.heap[w]?=some (.cells a.toArray f)):oN y (fw n z1 (rU w f a)) :=
 s.put z1 _ (by rw[e];exact g) o (fun q c=>by rw[e];exact R4 c)
def iU(b:Nat)(I:Nat×Nat->It)(M:Mc)(N:Nat)(r:Bool)(e:Ending)(w':World):Prop:=e=returned (bool r)/\∃I' M',cd w' b I' M' (N+1)/\rH I M I' M'
theorem cd.turn0{M M':Mc}(h:cd b w n M f)(e:(M'.hx=M.hx/\M'.hm=M.hm/\M'.hr=M.hr/\M'.hl=M.hl/\M'.hc=M.hc)/\M'.V=M.V/\M'.reg=M.reg/\M'.L=M.L)(k:aa [w] b y)(o:y.heap[w]?=some (.cells M'.cells.toArray 42))(C:sG M'.a/\sG M'.n/\sG M'.e):cd y w (fw n (0,0) (rU w 42 M'.cells)) M' f:=by
 obtain⟨⟨s,t,u,z,A⟩,d,j,g⟩:=e;have q:∀a i,a≠0->fw n (0,0) (rU w 42 M'.cells) (a,i)=n (a,i):=fun a i B=>RM _ _ (bu B)
 exact {
  sep:=h.sep.turn h.w0 k o
  w0:=bP _ _ _
  x:=by rw[q 1 0 (by decide),s,d];exact h.x
  m:=by rw[q 2 0 (by decide),t,d];exact h.m
  r:=by rw[q 3 0 (by decide),u,j];exact h.r
  ls:=by rw[q 4 0 (by decide),z,g];exact h.ls
  lw:=by rw[q 5 0 (by decide),A,g];exact h.lw
  v:=fun i x m p c=>by rw[q 6 i (by decide),q 7 i (by decide)];rw[d]at c;exact h.v i x m p c
  l:=fun i x m p c=>by rw[q 8 i (by decide),q 9 i (by decide)];rw[g]at c;exact h.l i x m p c
  fit:=by rw[j];exact h.fit
  len:=by rw[d,j,g];exact h.len
  rng:=C }
theorem cd.boxed{M:Mc}(h:cd b w n M f)(k a c d:Int)(s t:ByteArray)(W:World)(e:b.alloc (.cells #[int i64 k,int i64 a,int i64 c,int i64 d,string s,string t] 28)=W) :
  cd W w n M f/\W.heap[b.heap.size]?=some (.cells #[int i64 k,int i64 a,int i64 c,int i64 d,string s,string t] 28)/\w<b.heap.size/\aa [] b W:=by
 have g:aa [] b W:=by rw[<-e];exact(aa.refl [] _).alloc _
 exact⟨h.Wj g,by rw[<-e];exact R2 _ _,ae h.blk,g⟩
theorem dV{a c d:Int}(h:b.heap[w]?=some (.cells #[int i64 y4,int i64 a,int i64 c,int i64 d,string M,string N] 28)) :
  b.cell? ⟨w,0,none⟩=some (int i64 y4)/\b.cell? ⟨w,1,none⟩=some (int i64 a)/\b.cell? ⟨w,2,none⟩=some (int i64 c)/\b.cell? ⟨w,3,none⟩=some (int i64 d)/\b.cell? ⟨w,4,none⟩=some (string M)/\b.cell? ⟨w,5,none⟩=some (string N)/\w<b.heap.size:=by
 refine⟨?_,?_,?_,?_,?_,?_,ae h⟩ <;> (rw[aj h];rfl)
theorem Qm(M:Mc)(A C D:Int)(s t:ByteArray)(w:World)(h:cd w l i M H)(k:sG A)(m:sG C)(o:sG D) :
  Calls prog 12 #[pointer (some ⟨l,0,none⟩),agg #[int i64 7,int i64 A,int i64 C,int i64 D,string s,string t]] w fun e u=>iU l i M H true e u:=by
 obtain⟨W,c⟩:∃W,Hid (w.alloc (.cells #[int i64 7,int i64 A,int i64 C,int i64 D,string s,string t] 28)=W):=⟨_,rfl⟩
 obtain⟨b,d,p,-⟩:=h.boxed 7 A C D s t W c.out;obtain⟨F,G,I,J,K,L,N⟩:=dV d;have x:W.cell? ⟨l,5,none⟩=some (int i64 M.a):=by rw[aj b.blk];rfl
 have y:W.cell? ⟨l,6,none⟩=some (int i64 M.n):=by rw[aj b.blk];rfl
 have z:W.cell? ⟨l,7,none⟩=some (int i64 M.e):=by rw[aj b.blk];rfl
 have B:=am b.blk;have v:=ae b.blk;have r:l≠w.heap.size:=by omega
 have f:w.heap.size≠l:=by omega
 have g:Hid (cd (((W.setCell ⟨l,5,none⟩ (int i64 A)).setCell ⟨l,6,none⟩ (int i64 C)).setCell ⟨l,7,none⟩ (int i64 D)) l _ { M with a:=A,n:=C,e:=D } H) :=
  b.turn0 (M':={ M with a:=A,n:=C,e:=D }) ⟨⟨rfl,rfl,rfl,rfl,rfl⟩,rfl,rfl,rfl⟩ ((((aa.refl [l] _).setCell (R4 (by simp)) _).setCell (R4 (by simp)) _).setCell (R4 (by simp)) _) (by rw[ah (ah (ah b.blk 5 _) 6 _) 7 _];rfl) ⟨k,m,o⟩
 clear h b d;go_enter func12,ntmps12;go_upto_region 1 with fail
 rw[c.out];go_wp2;go_ret;exact⟨rfl,_,_,g.out.more,⟨fun j E q=>pm (by decide) q,rfl,rfl⟩⟩
theorem Ov(M:Mc)(A C D:Int)(s t:ByteArray)(w:World)(h:cd w l i M H) :
  Calls prog 12 #[pointer (some ⟨l,0,none⟩),agg #[int i64 16,int i64 A,int i64 C,int i64 D,string s,string t]] w fun e n=>iU l i M H true e n:=by
 obtain⟨W,b⟩:∃W,Hid (w.alloc (.cells #[int i64 16,int i64 A,int i64 C,int i64 D,string s,string t] 28)=W):=⟨_,rfl⟩
 obtain⟨a,c,g,-⟩:=h.boxed 16 A C D s t W b.out;obtain⟨v,x,y,z,B,E,F⟩:=dV c;have q:=am a.blk;have o:=ae a.blk;have m:l≠w.heap.size:=by omega
 have d:w.heap.size≠l:=by omega
 have p:W.cell? ⟨l,8,none⟩=some (int i64 M.u):=by rw[aj a.blk];rfl
 have f:Hid (cd (W.setCell ⟨l,8,none⟩ (int i64 A)) l _ { M with u:=A } H) :=
  a.turn0 (M':={ M with u:=A }) ⟨⟨rfl,rfl,rfl,rfl,rfl⟩,rfl,rfl,rfl⟩ ((aa.refl [l] _).setCell (R4 (by simp)) _) (by rw[ah a.blk 8 _];rfl) a.rng
 clear h a c;go_enter func12,ntmps12;go_upto_region 1 with fail
 rw[b.out];go_wp2;go_ret;exact⟨rfl,_,_,f.out.more,⟨fun j r k=>pm (by decide) k,rfl,rfl⟩⟩
theorem nk(M:Mc)(k A C D:Int)(s t:ByteArray)(w:World)(h:cd w l i M H)(n:(8<=k/\k<=14)∨19<=k) :
  Calls prog 12 #[pointer (some ⟨l,0,none⟩),agg #[int i64 k,int i64 A,int i64 C,int i64 D,string s,string t]] w fun e v=>e=returned (bool false)/\aa [] w v:=by
 obtain⟨W,d⟩:∃W,Hid (w.alloc (.cells #[int i64 k,int i64 A,int i64 C,int i64 D,string s,string t] 28)=W):=⟨_,rfl⟩
 obtain⟨g,c,j,b⟩:=h.boxed k A C D s t W d.out;obtain⟨I,-⟩:=dV c;have f:Hid (aa [] w W):=b;have J:=ae c;have a:∀m:Int,(k=m->False)->(k==m)=false:=fun m o=>Sp.2 o;have x:=a 1 (by omega);have y:=a 2 (by omega);have z:=a 3 (by omega);have B:=a 4 (by omega);have E:=a 5 (by omega);have F:=a 6 (by omega);have G:=a 7 (by omega);have p:=a 15 (by omega);have q:=a 16 (by omega);have r:=a 17 (by omega);have u:=a 18 (by omega);clear h g c a n b;go_enter func12,ntmps12;go_upto_region 1 with fail
 rw[d.out];go_wp2;go_ret;exact⟨rfl,f.out⟩
theorem Ou(M:Mc)(A C D:Int)(s t:ByteArray)(w:World)(h:cd w l i M H) :
  Calls prog 12 #[pointer (some ⟨l,0,none⟩),agg #[int i64 15,int i64 A,int i64 C,int i64 D,string s,string t]] w fun e B=>iU l i M H true e B:=by
 obtain⟨W,b⟩:∃W,Hid (w.alloc (.cells #[int i64 15,int i64 A,int i64 C,int i64 D,string s,string t] 28)=W):=⟨_,rfl⟩
 obtain⟨a,c,x,-⟩:=h.boxed 15 A C D s t W b.out;obtain⟨J,K,L,N,O,P,Q⟩:=dV c;have I:=am a.blk;have E:=ae a.blk;have z:l≠w.heap.size:=by omega
 have d:w.heap.size≠l:=by omega
 have F:W.cell? ⟨l,8,none⟩=some (int i64 M.u):=by rw[aj a.blk];rfl
 have G:W.cell? ⟨l,9,none⟩=some (string M.s):=by rw[aj a.blk];rfl
 have m:W.cell? ⟨l,10,none⟩=some (int i64 M.p):=by rw[aj a.blk];rfl
 have n:W.cell? ⟨l,11,none⟩=some (int i64 M.q):=by rw[aj a.blk];rfl
 have o:W.cell? ⟨l,12,none⟩=some (string M.f):=by rw[aj a.blk];rfl
 have r:W.cell? ⟨l,13,none⟩=some (int i64 M.i):=by rw[aj a.blk];rfl
 have v:W.cell? ⟨l,14,none⟩=some (int i64 M.j):=by rw[aj a.blk];rfl
 have k:Hid (cd (((((((W.setCell ⟨l,9,none⟩ (string s)).setCell ⟨l,10,none⟩ (int i64 A)).setCell ⟨l,11,none⟩ (int i64 C)).setCell ⟨l,12,none⟩ (string t)).setCell ⟨l,13,none⟩ (int i64 D)).setCell ⟨l,14,none⟩ (int i64 M.u)).drew) l _ { M with s:=s,p:=A,q:=C,f:=t,i:=D,j:=M.u } H) :=
  (a.turn0 (M':={ M with s:=s,p:=A,q:=C,f:=t,i:=D,j:=M.u }) ⟨⟨rfl,rfl,rfl,rfl,rfl⟩,rfl,rfl,rfl⟩ ((((((((aa.refl [l] _).setCell (R4 (by simp)) _).setCell (R4 (by simp)) _).setCell (R4 (by simp)) _).setCell (R4 (by simp)) _).setCell (R4 (by simp)) _).setCell (R4 (by simp)) _)) (by rw[ah (ah (ah (ah (ah (ah a.blk 9 _) 10 _) 11 _) 12 _) 13 _) 14 _];rfl) a.rng).Wj (aa.refl [] _).drew
 clear h a c;go_enter func12,ntmps12;go_upto_region 1 with fail
 rw[b.out];go_upto_region 38 with fail
 go_region
 all_goals go_wp2
 all_goals go_ret
 all_goals exact⟨rfl,_,_,k.out.more,⟨fun j g y=>pm (by decide) y,rfl,rfl⟩⟩
theorem cd.clear{M:Mc}(h:cd b w n M f)(k:aa [w] b y)(o:y.heap[w]?=some (.cells ({ M with hr:=⟨none,0⟩,reg:=[] }:Mc).cells.toArray 42)):∃g,cd y w g { M with hr:=⟨none,0⟩,reg:=[] } f/\rH n M g { M with hr:=⟨none,0⟩,reg:=[] }:=by
 have A:=h.sep.turn h.w0 k o;have B:=A.put (3,0) (cw ⟨none,0⟩ (cK [])) ((aa.refl _ y).mono (fun _ z _=>z)) (Sb _ _ _ _) (fun q u=>by cases u);refine⟨fw (fw n (0,0) (rU w 42 ({ M with hr:=⟨none,0⟩,reg:=[] }:Mc).cells)) (3,0) (cw ⟨none,0⟩ (cK [])),?_,?_⟩
 rotate_left
 ·exact⟨fun j i t=>by(repeat rw[pm (by decide) t]),rfl,rfl⟩
 have q:∀a i,a≠0->a≠3->(fw (fw n (0,0) (rU w 42 ({ M with hr:=⟨none,0⟩,reg:=[] }:Mc).cells)) (3,0) (cw ⟨none,0⟩ (cK []))) (a,i)=n (a,i):=fun a i p s=>by rw[RM _ _ (bu s),RM _ _ (bu p)]
 exact {
  sep:=B
  w0:=by rw[RM _ _ (bu (by decide))];exact bP _ _ _
  x:=by rw[q 1 0 (by decide) (by decide)];exact h.x
  m:=by rw[q 2 0 (by decide) (by decide)];exact h.m
  r:=bP _ _ _
  ls:=by rw[q 4 0 (by decide) (by decide)];exact h.ls
  lw:=by rw[q 5 0 (by decide) (by decide)];exact h.lw
  v:=fun i x m d e=>by rw[q 6 i (by decide) (by decide),q 7 i (by decide) (by decide)];exact h.v i x m d e
  l:=fun i x m d e=>by rw[q 8 i (by decide) (by decide),q 9 i (by decide) (by decide)];exact h.l i x m d e
  fit:=fun j=>⟨by show(0:Nat)<=_;omega,by show(0:Nat)<=_;omega⟩
  len:=⟨h.len.1,SE _,h.len.2.2⟩
  rng:=h.rng }
theorem Qi(b N:Nat)(I:Nat×Nat->It)(M:Mc)(A C D:Int)(s t:ByteArray)(w:World)(h:cd w b I M N) :
  Calls prog 12 #[pointer (some ⟨b,0,none⟩),agg #[int i64 3,int i64 A,int i64 C,int i64 D,string s,string t]] w fun e o=>iU b I M N true e o:=by
 obtain⟨W,f⟩:∃W,Hid (w.alloc (.cells #[int i64 3,int i64 A,int i64 C,int i64 D,string s,string t] 28)=W):=⟨_,rfl⟩
 obtain⟨a,g,l,-⟩:=h.boxed 3 A C D s t W f.out;obtain⟨u,v,x,y,z,B,E⟩:=dV g;have r:=am a.blk;have p:=ae a.blk;have m:b≠w.heap.size:=by omega
 have i:w.heap.size≠b:=by omega
 have q:W.cell? ⟨b,2,none⟩=some (slice M.hr.ao M.reg.length M.hr.cap):=by rw[aj a.blk];rfl
 have j:Hid (∃c,cd (W.setCell ⟨b,2,none⟩ (slice none 0 0)) b c { M with hr:=⟨none,0⟩,reg:=[] } N/\rH I M c { M with hr:=⟨none,0⟩,reg:=[] }) :=
  a.clear ((aa.refl [b] _).setCell (R4 (by simp)) _) (by rw[ah a.blk 2 _];rfl)
 clear h a g;go_enter func12,ntmps12;go_upto_region 1 with fail
 rw[f.out];go_wp2;go_ret;obtain⟨c,k,d⟩:=j.out;exact⟨rfl,c,_,k.more,d⟩
theorem dj{c:List Oper}(H:z0.guard=none)(s x:Operand)(t:TypeId)(p:z0.op=Op.call { callee:=Callee.builtin Builtin.append,args:=#[s,x],argTypes:=#[t,t] })(i:TypeInfo)(z:Value)(b:Nat)(h:Hd)(r:eB)(a:List Value)(w:z2.underlying t=some (.slice r.e))(y:z2.info? r.e=some i)(A:i.zero=some z)(B:i.size=r.size)(C:i.bytes=b)(D:z.cells.size=r.size)(E:0<r.size)(L:z6.eval s=slice h.ao r.n h.cap)(d:aC v h r)(Q:r.n<=4294967296)(G:b<=1000)(M:z6.eval x=slice (some ⟨v.heap.size,0,none⟩) 1 1)(R:a.length=r.size)(l:∀u∈a,u.oneCell'=true)(F:∀k g,aC g k ⟨r.e,r.size,r.n+1,r.xs++a⟩->bI v g h k->wpList z2 y8 y9 c (z6.put z0.dst (slice k.ao (r.n+1) k.cap)) g) :
  wpList z2 y8 y9 (z0 :: c) z6 (v.alloc (.cells a.toArray r.e)):=by
 have q:aa [] v (v.alloc (.cells a.toArray r.e)):=(aa.refl [] _).alloc _;have J:(v.alloc (.cells a.toArray r.e)).heap[v.heap.size]?=some (.cells a.toArray r.e):=R2 _ _;obtain⟨o,g,f,N,O⟩:=sS (P:=z2) (v.alloc (.cells a.toArray r.e)) t z0.type i z b h r w y A B C D E (d.Wj q) (some ⟨v.heap.size,0,none⟩) 1 1 a (by omega) (fun e=>by cases e) (fun P e j u I=>by cases e;rw[bS,aj J];simpa using I) l (by unfold maxLen;omega) (Sc (Uy (show r.n+1<=4294967297 by omega) G) (by omega));refine wpList_plain H fun K m=>?_;unfold Oper.wp;simp[execOp,p,resolve,invoke,builtin,L,M,f,Result.andThen];exact m _ _ (F o g N ((bI.Wj q).trans O))
theorem uR{K:Act->World->Prop}{E:Prop}(H:z0.guard=none)(s x:Operand)(t:TypeId)(o:z0.op=Op.call { callee:=Callee.builtin Builtin.append,args:=#[s,x],argTypes:=#[t,t] })(i:TypeInfo)(z:Value)(b:Nat)(h:Hd)(r:eB)(a:List Value)(q:z2.underlying t=some (.slice r.e))(w:z2.info? r.e=some i)(y:i.zero=some z)(A:i.size=r.size)(B:i.bytes=b)(C:z.cells.size=r.size)(D:0<r.size)(L:z6.eval s=slice h.ao r.n h.cap)(g:aC v h r)(R:r.n<=4294967296)(G:b<=1000)(N:z6.eval x=slice (some ⟨v.heap.size,0,none⟩) 1 1)(S:a.length=r.size)(m:∀u∈a,u.oneCell'=true)(F:∀d c l,aC l ⟨d,c⟩ ⟨r.e,r.size,r.n+1,r.xs++a⟩->bI v l h ⟨d,c⟩->K (z6.put z0.dst (slice d (r.n+1) c)) l) :
  if Region.wanted z0 (yielded y8 z6.tmps)=true then Oper.wp z2 z0 z6 (v.alloc (.cells a.toArray r.e)).drew K y9 else E:=by
 have p:aa [] v (v.alloc (.cells a.toArray r.e)).drew:=((aa.refl [] _).alloc _).drew;have J:(v.alloc (.cells a.toArray r.e)).drew.heap[v.heap.size]?=some (.cells a.toArray r.e):=R2 _ _;obtain⟨f,l,k,O,P⟩:=sS (P:=z2) (v.alloc (.cells a.toArray r.e)).drew t z0.type i z b h r q w y A B C D (g.Wj p) (some ⟨v.heap.size,0,none⟩) 1 1 a (by omega) (fun e=>by cases e) (fun Q e j u I=>by cases e;rw[bS,aj J];simpa using I) m (by unfold maxLen;omega) (Sc (Uy (show r.n+1<=4294967297 by omega) G) (by omega));have M:Region.wanted z0 (yielded y8 z6.tmps)=true:=by simp[Region.wanted,H]
 rw[RY M];unfold Oper.wp;simp[execOp,o,resolve,invoke,builtin,L,N,k,Result.andThen];exact F f.ao f.cap l O ((bI.Wj p).trans P)
theorem oN.grown(s:oN b n)(k:n (0,0)=rU w f y7)(m:z1≠(0,0))(e:n z1=cw d ya)(l:bI b y d g)(o:aC y g y6)(j:Nat)(v:Value) :
  oN (y.setCell ⟨w,j,none⟩ v) (fw (fw n z1 (cw g y6)) (0,0) (rU w f (y7.set j v))):=by
 have i:=s.grow e l o;have a:fw n z1 (cw g y6) (0,0)=rU w f y7:=by rw[RM _ _ (Ne.symm m)];exact k
 refine i.turn a ((aa.refl [w] _).setCell (R4 (by simp)) _) ?_;have c:=i.all (0,0);rw[a]at c;rw[ah (show y.heap[w]?=some (.cells y7.toArray f) from c) j v,SV]
theorem J2(f:ByteArray×ByteArray):∀u∈Pt f,u.oneCell'=true:=by
 intro u a;simp only[Pt,List.mem_cons,List.not_mem_nil,or_false]at a;rcases a with rfl | rfl <;> rfl
theorem Ar(h:lr S)(b:M.size<=1073741824)(a:N.size<=1073741824):lr (S++[(M,N)]):=by
 intro j;have:=h j;unfold aD ak at *;rw[RT]at *;by_cases e:j<S.length
 ·rw[Si e];exact this
 ·rw[Sf (by omega)];cases c:j-S.length with
  | zero=>exact⟨b,a⟩
  | succ q=>exact⟨by show(0:Nat)<=_;omega,by show(0:Nat)<=_;omega⟩
theorem cd.addR{c:Mc}(h:cd b w n c f)(g:bI b y c.hr d)(o:aC y d (cK (c.reg++[(M,N)])))(C:M.size<=1073741824)(A:N.size<=1073741824):∃s t,cd (y.setCell ⟨w,2,none⟩ (slice d.ao (c.reg.length+1) d.cap)) w s t (f+1)/\rH n c s t:=by
 have D:=h.sep.grown h.w0 (bu (by decide)) h.r g o 2 (slice d.ao (c.reg.length+1) d.cap);refine⟨fw (fw n (3,0) (cw d (cK (c.reg++[(M,N)])))) (0,0) (rU w 42 (c.cells.set 2 (slice d.ao (c.reg.length+1) d.cap))),{ c with hr:=d,reg:=c.reg++[(M,N)] },?_,?_⟩
 rotate_left
 ·exact⟨fun j i B=>by(repeat rw[pm (by decide) B]),rfl,rfl⟩
 have q:∀a i,a≠0->a≠3->(fw (fw n (3,0) (cw d (cK (c.reg++[(M,N)])))) (0,0) (rU w 42 (c.cells.set 2 (slice d.ao (c.reg.length+1) d.cap)))) (a,i)=n (a,i):=fun a i u z=>by rw[RM _ _ (bu u),RM _ _ (bu z)]
 have k:=h.more
 exact {
  sep:=D
  w0:=by rw[bP];unfold Mc.cells;rw[R9];rfl
  x:=by rw[q 1 0 (by decide) (by decide)];exact h.x
  m:=by rw[q 2 0 (by decide) (by decide)];exact h.m
  r:=by rw[RM _ _ (bu (by decide))];exact bP _ _ _
  ls:=by rw[q 4 0 (by decide) (by decide)];exact h.ls
  lw:=by rw[q 5 0 (by decide) (by decide)];exact h.lw
  v:=fun i x m e p=>by rw[q 6 i (by decide) (by decide),q 7 i (by decide) (by decide)];exact h.v i x m e p
  l:=fun i x m e p=>by rw[q 8 i (by decide) (by decide),q 9 i (by decide) (by decide)];exact k.l i x m e p
  fit:=Ar h.fit C A
  len:=⟨k.len.1,by have:=h.len.2.1;show(c.reg++[(M,N)]).length<=_;rw[R9];show _+1<=_;omega,k.len.2.2⟩
  rng:=h.rng }
theorem Qh(M:Mc)(A C D:Int)(s t:ByteArray)(w:World)(h:cd w l i M H)(Z:H<=1073741824)(O:s.size<=1073741824)(P:t.size<=1073741824) :
  Calls prog 12 #[pointer (some ⟨l,0,none⟩),agg #[int i64 2,int i64 A,int i64 C,int i64 D,string s,string t]] w fun e R=>iU l i M H true e R:=by
 obtain⟨W,v⟩:∃W,Hid (w.alloc (.cells #[int i64 2,int i64 A,int i64 C,int i64 D,string s,string t] 28)=W):=⟨_,rfl⟩
 obtain⟨a,y,K,-⟩:=h.boxed 2 A C D s t W v.out;obtain⟨o0,o1,o2,o3,o4,o5,oz⟩:=dV y;obtain⟨Q,p,g,j,k⟩:=Sr Ax;have Y:=am a.blk;have T:=ae a.blk;have L:l≠w.heap.size:=by omega
 have z:w.heap.size≠l:=by omega
 have U:W.cell? ⟨l,2,none⟩=some (slice M.hr.ao M.reg.length M.hr.cap):=by rw[aj a.blk];rfl
 have u:Hid (cd W l i M H):=a;have m:=a.ownR;have o:Hid ((cK M.reg).n<=4294967296):=by show M.reg.length<=_;have:=h.len.2.1;omega
 have c:Hid ((cK M.reg).n=M.reg.length):=rfl;have b:Hid (l∉M.hr.blk.toList):=fun N=>a.sep.far (0,0) (3,0) (bu (by decide)) l (by rw[a.w0];exact Se.2 rfl) (by rw[a.r];exact N);clear h a y;go_enter func12,ntmps12;go_upto_region 1 with fail
 rw[v.out];go_upto_region 9 with fail
 go_region_law (refine uR W rfl (.tmp 51) (.tmp 57) 33 rfl Q (agg #[string ⟨#[]⟩,string ⟨#[]⟩]) 32 M.hr (cK M.reg) (Pt (s,t)) underlying33 p g j k rfl VN (by rw[c.out];simp[Act.eval]) m o.out (by omega) (by simp[Act.eval]) rfl (J2 (s,t)) ?_;intro G x S f d;have q:=d.kept.get u.out.blk b.out;have X:=am q 2;have V:S.cell? ⟨l,2,none⟩=some (slice M.hr.ao M.reg.length M.hr.cap):=(by rw[aj q];rfl);have z5:=ae q)
 all_goals
  rw[xD]at f;have B:Hid _:=u.out.addR d f O P;rw[c.out];go_wp2;go_ret;obtain⟨E,F,I,J⟩:=B.out;exact⟨rfl,E,F,I,J⟩
theorem Qa:(prog.info? 46).map (fun i=>(i.zero,i.size,i.bytes))=some (some (pointer none),1,8):=by kernel_rfl
theorem P9:(prog.info? 47).map (fun i=>(i.zero,i.size,i.bytes))=some (some (pointer none),1,8):=by kernel_rfl
theorem zA(L:List Nat)(x:Nat):(⟨(lQ H L).e,(lQ H L).size,(lQ H L).n+1,(lQ H L).xs++[OQ x]⟩:eB)=lQ H (L++[x]):=by
 simp[lQ]
theorem cd.addV{J:Nat×Nat->It}{M:Mc}(h:cd b w n M f)(c:J=fw (fw n (6,M.V.length) (Qe x [] 0 0 none)) (7,M.V.length) (Qd y2 ⟨none,0⟩ [] 0 0 none))(u:oN y (fw (fw (fw (fw J (1,0) (cw d (lQ 46 (M.V.map (·.1)++[x])))) (0,0) (rU w 42 (M.cells.set 0 (slice d.ao (M.V.length+1) d.cap)))) (2,0) (cw g (lQ 47 (M.V.map (·.2.1)++[y2])))) (0,0) (rU w 42 ((M.cells.set 0 (slice d.ao (M.V.length+1) d.cap)).set 1 (slice g.ao (M.V.length+1) g.cap))))) :
  ∃q s,cd y w q s (f+1)/\rH n M q s:=by
 refine⟨_,{ M with hx:=d,hm:=g,V:=M.V++[(x,y2,[])] },⟨u,?_,?_,?_,?_,?_,?_,?_,?_,?_,?_,?_⟩,?_⟩
 ·rw[bP];unfold Mc.cells;rw[R9];rfl
 ·rw[RM _ _ (bu (by decide)),RM _ _ (bu (by decide)),RM _ _ (bu (by decide)),bP,SF];rfl
 ·rw[RM _ _ (bu (by decide)),bP,SF];rfl
 ·subst c;simp only[fw];exact h.r
 ·subst c;simp only[fw];exact h.ls
 ·subst c;simp only[fw];exact h.lw
 ·intro i o m k a;rw[RM _ _ (bu (by decide)),RM _ _ (bu (by decide)),RM _ _ (bu (by decide)),RM _ _ (bu (by decide)),RM _ _ (bu (by decide)),RM _ _ (bu (by decide)),RM _ _ (bu (by decide)),RM _ _ (bu (by decide))];replace a:(M.V++[(x,y2,[])])[i]?=some (o,m,k):=a;subst c;by_cases e:i<M.V.length
  ·rw[Si e]at a;rw[RM _ _ (bu (by decide)),RM _ _ (rV (by omega)),RM _ _ (rV (by omega)),RM _ _ (bu (by decide))];exact h.v i o m k a
  ·have t:i=M.V.length:=by
    have:=(R8.1 a).1;rw[R9]at this;have:i<M.V.length+1:=this;omega
   subst t;rw[Sf (RV _),Td]at a;cases a
   rw[RM _ _ (bu (by decide)),bP,bP];exact⟨⟨none,⟨none,0⟩,0,0,0,0,rfl,rfl⟩,fun j p=>by cases p⟩
 ·intro i o m k a;subst c;simp only[fw];exact h.more.l i o m k a
 ·exact h.fit
 ·refine⟨?_,h.more.len.2.1,h.more.len.2.2⟩;have:=h.len.1
  show(M.V++[(x,y2,[])]).length<=_
  rw[R9];show _+1<=_;omega
 ·exact h.rng
 ·subst c;exact⟨fun j i p=>by(repeat rw[pm (by decide) p]),rfl,rfl⟩
theorem Qg(M:Mc)(A C D:Int)(s t:ByteArray)(w:World)(h:cd w l i M H)(hN:H<=1073741824) :
  Calls prog 12 #[pointer (some ⟨l,0,none⟩),agg #[int i64 1,int i64 A,int i64 C,int i64 D,string s,string t]] w fun e w'=>iU l i M H true e w':=by
 obtain⟨W,HW⟩:∃W,Hid (w.alloc (.cells #[int i64 1,int i64 A,int i64 C,int i64 D,string s,string t] 28)=W):=⟨_,rfl⟩
 obtain⟨hM,hB,ax,-⟩:=h.boxed 1 A C D s t W HW.out;obtain⟨o0,-⟩:=dV hB;have oz:=ae hB;obtain⟨iX,ar,R,S,T⟩:=Sr Qa;obtain⟨iM,ap,O,P,Q⟩:=Sr P9;have r:Hid (cd W l i M H):=hM;have an:Hid ((lQ 46 (M.V.map (·.1))).n<=4294967296):=by show(M.V.map _).length<=_;rw[Sn];have:=h.len.1;omega
 have al:Hid ((lQ 47 (M.V.map (·.2.1))).n<=4294967296):=by show(M.V.map _).length<=_;rw[Sn];have:=h.len.1;omega
 have E:Hid ((lQ 46 (M.V.map (·.1))).n=M.V.length):=Sn _;have z:Hid ((lQ 47 (M.V.map (·.2.1))).n=M.V.length):=Sn _;clear h hM hB;go_enter func12,ntmps12;go_upto_region 1 with fail
 rw[HW.out];go_upto_region 5 with (go_at_call 28;refine R0 (Oz W) ?_;rintro e Z ⟨rfl,hX,k1⟩)
 have S1:Hid _:=r.out.sep.put (6,M.V.length) (Qe W.heap.size [] 0 0 none) (k1.mono (by simp)) ⟨SE _,hX⟩ (fun q k=>RZ (by rcases Sv.1 k with e | e;exact Nat.le_of_eq e.symm;exact absurd (nM.1 e).2 (U9 _)));go_upto_region 6 with (go_at_call 29;refine R0 (Jx Z) ?_;rintro e w2 ⟨rfl,hY,k2⟩)
 have S2:Hid _:=(S1.out.put (7,M.V.length) (Qd Z.heap.size ⟨none,0⟩ [] 0 0 none) (k2.mono (by simp)) ⟨SE _,_,_,_,hY⟩ (fun q k=>RZ (by rcases Sv.1 k with e | e;exact Nat.le_of_eq e.symm;exact absurd (nM.1 (show q∈iy 0 0 from e)).2 (U9 _))));have a:Hid _:=(r.out.Wj k1).Wj k2;clear hX hY k1 k2;have c0:w2.cell? ⟨l,0,none⟩=some (slice M.hx.ao M.V.length M.hx.cap):=by rw[aj a.out.blk];rfl
 have fb:=am a.out.blk;have bz:=ae a.out.blk;have I:=a.out.ownX;have y:Hid (l∉M.hx.blk.toList):=fun k=>a.out.sep.far (0,0) (1,0) (bu (by decide)) l (by rw[a.out.w0];exact Se.2 rfl) (by rw[a.out.x];exact k);obtain⟨J,p⟩:∃J,Hid (J=fw (fw i (6,M.V.length) (Qe W.heap.size [] 0 0 none)) (7,M.V.length) (Qd Z.heap.size ⟨none,0⟩ [] 0 0 none)):=⟨_,rfl⟩
 rw[<-p.out]at S2;have af:Hid (J (0,0)=rU l 42 M.cells):=by show _=_;rw[p.out,RM _ _ (bu (by decide)),RM _ _ (bu (by decide))];exact r.out.w0
 have ag:Hid (J (1,0)=cw M.hx (lQ 46 (M.V.map (·.1)))):=by show _=_;rw[p.out,RM _ _ (bu (by decide)),RM _ _ (bu (by decide))];exact r.out.x
 have ai:Hid (J (2,0)=cw M.hm (lQ 47 (M.V.map (·.2.1)))):=by show _=_;rw[p.out,RM _ _ (bu (by decide)),RM _ _ (bu (by decide))];exact r.out.m
 obtain⟨X,B⟩:∃X,Hid (W.heap.size=X):=⟨_,rfl⟩
 obtain⟨Y,F⟩:∃Y,Hid (Z.heap.size=Y):=⟨_,rfl⟩
 rw[B.out,F.out]at p;rw[B.out,F.out];go_upto_region 7 with (at_builtin;refine dj w2 rfl (.tmp 29) (.tmp 31) 31 rfl iX (pointer none) 8 M.hx (lQ 46 (M.V.map (·.1))) [OQ X] underlying31 ar R S T rfl So (by rw[E.out];simp[Act.eval]) I an.out (by omega) (by simp[Act.eval]) rfl (by simp[OQ,Value.oneCell']) ?_;intro b w5 o j;rw[zA]at o;have U:=j.kept.get a.out.blk y.out;have f5:=am U;have c5:w5.cell? ⟨l,0,none⟩=some (slice M.hx.ao M.V.length M.hx.cap):=(by rw[aj U];rfl);have z5:=ae U)
 rw[E.out];have u:Hid _:=(S2.out.grown af.out (bu (by decide)) ag.out j o 0 (slice b.ao (M.V.length+1) b.cap));obtain⟨v,ad⟩:∃v,Hid (w5.setCell ⟨l,0,none⟩ (slice b.ao (M.V.length+1) b.cap)=v):=⟨_,rfl⟩
 rw[ad.out]at u ⊢;have c:Hid _:=bP (fw J (1,0) (cw b (lQ 46 (M.V.map (·.1)++[X])))) (0,0) (rU l 42 (M.cells.set 0 (slice b.ao (M.V.length+1) b.cap)));obtain⟨J6,f⟩:∃J6,Hid (fw (fw J (1,0) (cw b (lQ 46 (M.V.map (·.1)++[X])))) (0,0) (rU l 42 (M.cells.set 0 (slice b.ao (M.V.length+1) b.cap)))=J6):=⟨_,rfl⟩
 have g:Hid (J6 (2,0)=cw M.hm (lQ 47 (M.V.map (·.2.1)))):=by show _=_;rw[<-f.out,RM _ _ (bu (by decide)),RM _ _ (bu (by decide))];exact ai.out
 rw[f.out]at u c;have G:v.heap[l]?=some (.cells (M.cells.set 0 (slice b.ao (M.V.length+1) b.cap)).toArray 42):=by
  have:=u.out.all (0,0);rw[c.out]at this;exact this
 have ac:Hid _:=G;have K:aC v M.hm (lQ 47 (M.V.map (·.2.1))):=by
  have:=u.out.all (2,0);rw[g.out]at this;exact this
 have d:Hid (l∉M.hm.blk.toList):=fun k=>u.out.far (0,0) (2,0) (bu (by decide)) l (by rw[c.out];exact Se.2 rfl) (by rw[g.out];exact k);clear U f5 c5 z5 o j c0 fb bz I;have c1:v.cell? ⟨l,1,none⟩=some (slice M.hm.ao M.V.length M.hm.cap):=by rw[aj G];rfl
 have fb:=am G;have bz:=ae G;clear G;go_wp2_with (at_builtin;refine dj v rfl (.tmp 39) (.tmp 41) 32 rfl iM (pointer none) 8 M.hm (lQ 47 (M.V.map (·.2.1))) [OQ Y] underlying32 ap O P Q rfl So (by rw[z.out];simp[Act.eval]) K al.out (by omega) (by simp[Act.eval]) rfl (by simp[OQ,Value.oneCell']) ?_;intro h7 w7 N L;rw[zA]at N;have p7:=L.kept.get ac.out d.out;have f7:=am p7;have c7:w7.cell? ⟨l,1,none⟩=some (slice M.hm.ao M.V.length M.hm.cap):=(by rw[aj p7];rfl);have z7:=ae p7;rw[z.out]);go_ret;have S7:=u.out.grown c.out (bu (by decide)) g.out L N 1 (slice h7.ao (M.V.length+1) h7.cap);rw[<-f.out]at S7;exact⟨rfl,r.out.addV p.out S7⟩
end Go.Proofs.YtnbhnocdhbcbcaaGreat

import Derived.Test.YtnbhnocdhbcbcaaGreatU12
import Derived.Test.YtnbhnocdhbcbcaaGreatU16
namespace Go.Proofs.YtnbhnocdhbcbcaaGreat
open Go.RowKit Tryz
open Value IntKind Ending
set_option maxHeartbeats 0
variable{L D N:World}{y d M:Nat}{k:uP}{o g:Nat->Hd}(a v:World)(T S x n:Nat)(b:jg)(l:List St)(I:Nat->Hd)(w:uP)(H:Nat->Hd)
theorem RN:(prog.info? 232).map (fun i=>(i.zero,i.size,i.bytes))=some (some (agg #[int i64 0,int i64 0]),2,16):=by kernel_rfl
def QL(p:Nat×Nat):List Value:=[int i64 p.1,int i64 p.2]
def rd(l:List (Nat×Nat)):ew:=lm 232 2 QL l
def gN(q:uP):Nat->ew
 | 0=>aD q.W
 | 1=>rd q.sp
 | 2=>bu q.th
 | _+3=>bu []
def tA(rb ro:Nat)(q:uP)(H:Nat->Hd):List Value:=[pointer (some ⟨rb,ro,none⟩),slice (H 0).ao q.W.length (H 0).cap,slice (H 1).ao q.sp.length (H 1).cap,slice (H 2).ao q.th.length (H 2).cap]
structure lY(w0 w:World)(b rb ro:Nat)(q:uP)(H:Nat->Hd):Prop where
 bag:bn w b 171 (tA rb ro q H) (gN q) H
 Yu:ae [] w0 w
 hb:w0.heap.size<=b
 hin:∀x,gF H x->w0.heap.size<=x
theorem lY.Yh(h:lY L D y d M k o)(a:ae [] D N):lY L N y d M k o:=⟨h.bag.Yh a,h.Yu.trans a,h.hb,h.hin⟩
theorem lY.turned{b:uP}(h:lY L D y d M k o)(t:aw y D o N g)(a:bn N y 171 (tA d M b g) (gN b) g):lY L N y d M b g:=by
 refine⟨a,h.Yu.ofP t.1 ?_,h.hb,fun x c=>?_⟩
 ·rintro x (e | e)
  ·have:=h.hb;omega
  ·exact h.hin x e
 ·rcases t.2 x c with e | e
  ·exact h.hin x e
  ·exact Un h.Yu.size e
theorem lY.cells(h:lY L D y d M k o):D.cell? ⟨y,0,none⟩=some (pointer (some ⟨d,M,none⟩))/\D.cell? ⟨y,1,none⟩=some (slice (o 0).ao k.W.length (o 0).cap)/\D.cell? ⟨y,2,none⟩=some (slice (o 1).ao k.sp.length (o 1).cap)/\D.cell? ⟨y,3,none⟩=some (slice (o 2).ao k.th.length (o 2).cap):=⟨h.bag.cell 0,h.bag.cell 1,h.bag.cell 2,h.bag.cell 3⟩
theorem aB.cutN{h:Hd}{l:Xv}(o:aB L h (bu l))(c:Nat)(w:c<=l.length):aB L h (bu (l.take c)):=by
 have e:(l.take c).length=c:=by simp;omega
 refine⟨by simp[bu,jF],?_⟩;rcases o.2 with ⟨f,u⟩ | ⟨g,a,b,f,r,s,k,n,p,q⟩
 ·left
  have:l.length=0:=u;have t:l=[]:=UI this;subst t;simp[bu]at f ⊢;exact f
 ·right
  have m:l.length<=a:=k;refine⟨g,a,b,?_,r,s,?_,n,p,?_⟩
  ·injection f with i v j
   simp only[bu];rw[i,j]
  ·show(l.take c).length<=a
   omega
  ·show b.toList.take ((l.take c).length*1)=jF (l.take c);have d:b.toList.take (l.length*1)=jF l:=q;rw[e];unfold jF at d ⊢;rw[Xn,<-d,Xc];congr 1;omega
set_option maxRecDepth 100000
theorem Cu(R:fy a S x l I)(ok:j6 l)(P:lY a v T S x w H)(hn:n<l.length)(a0:w.th.length<=2000000) :
  Calls prog 142 #[pointer (some ⟨T,0,none⟩),int i64 n] v fun e i=>e=returned (int i64 (jz (ij l n) w.W.length w.th).1)/\lY a i T S x { w with th:=(jz (ij l n) w.W.length w.th).2 } H/\aw T v H i H:=by
 have ai:=ok.len;have B:Xr _:=bC S x n l I v (R.Yh P.Yu) hn;have M:Xr (∀u,ae [] v u->Calls prog 143 #[pointer (some ⟨S,x,none⟩),int i64 n] u fun e i=>∃s:Hd,e=returned (slice s.ao (aM l n).length s.cap)/\aB i s (bu (aM l n))/\(∀k,s.Yv=some k->u.heap.size<=k)/\ae [] u i):=fun u k=>nR S x n l I u (R.Yh (P.Yu.trans k)) hn ok;have aT:(aM l n).length<=l.length:=nU l n l.length;have O:Xr (lY a v T S x w H):=P;obtain⟨q,J,Z,F⟩:=P.cells;have N:Xr _:=BK l n hn;clear P R Z;cases Q:ph l[n].Yw
 ·have y:Xr (jz (ij l n) w.W.length w.th=(w.W.length,w.th)):=by show _=_;unfold ij jz;rw[N.o,Q];rfl
  go_enter func142,ntmps142;go_upto_region 4 with (first | (go_at_call 98;refine Ug B.o ?_;rintro e u ⟨rfl,d⟩;unfold eW) | (go_at_call 161;refine(dj l[n].Yw _ _ _ _ _ _ _ _).mono ?_;rintro e X ⟨rfl,g⟩))
  have b:Xr _:=O.o.Yh (d.trans g);have ad:Xr (aw T v H X H):=(aw.refl _ _ _).Yh (d.trans g);clear q J F d g;obtain⟨q,J,Z,F⟩:=b.o.cells;go_wp2;go_ret;exact⟨T0 (by rw[y.o]),by rw[y.o];exact b.o,ad.o⟩
 ·have HC:Xr (ij l n=(aM l n).length):=by show _=_;unfold ij;rw[N.o,Q];rfl
  generalize aM l n=t at *;by_cases h0:t.length=0∨w.th.length<t.length
  ·have y:Xr (jz (ij l n) w.W.length w.th=(w.W.length,w.th)):=(by show _=_;unfold jz;rw[HC.o,Uf h0]);have s:((t.length:Int)==0)=true∨(((t.length:Int)==0)=false/\(w.th.length:Int)-t.length<0):=by
    by_cases e:t.length=0
    ·exact Us (by rw[e];rfl)
    ·exact Uo ⟨Uz.2 (by omega),by omega⟩
   rcases s with s | ⟨s,ar⟩
   all_goals
    go_enter func142,ntmps142;(go_upto_region 3 with (first | (go_at_call 98;refine Ug B.o ?_;rintro e u ⟨rfl,d⟩;unfold eW) | (go_at_call 161;refine(dj l[n].Yw _ _ _ _ _ _ _ _).mono ?_;rintro e X ⟨rfl,g⟩)));have b:Xr _:=O.o.Yh (d.trans g);have D:Xr _:=M.o X (d.trans g);have r:Xr _:=d.trans g;clear q J F d g;obtain⟨q,-⟩:=b.o.cells;(go_upto_region 4 with (go_at_call 143;refine Ug D.o ?_;rintro e G ⟨af,rfl,-,-,A⟩));have c:Xr _:=b.o.Yh A;have C:Xr (aw T v H G H):=(aw.refl _ _ _).Yh (r.o.trans A);clear q A;obtain⟨q,J,Z,F⟩:=c.o.cells;go_wp2;go_ret;exact⟨T0 (by rw[y.o]),by rw[y.o];exact c.o,C.o⟩
  ·obtain⟨f,hf⟩:∃f,w.th.length-t.length=f:=⟨_,rfl⟩
   have E:f<w.th.length:=(by omega);have aS:(w.th.length:Int)-t.length=(f:Int):=(by omega);have ax:¬(f:Int)<0:=(by omega);have s:((t.length:Int)==0)=false:=Uz.2 (by omega);have ag:(f:Int)<w.th.length:=(by omega);have y:Xr (jz (ij l n) w.W.length w.th=(w.th.getD f 0,w.th.take f)):=cM (by unfold jz;rw[HC.o,Ud h0,hf]);have HG:Xr (w.th.getD f 0=w.th[f]):=cM (by rw[Uc,Ub E];rfl);have U:aB v (H 2) (bu w.th):=O.o.bag.YF 2;obtain⟨p,Y,an⟩:∃p,(H 2).ao=some ⟨p,0,none⟩/\w.th.length<=(H 2).cap:=by
    rcases U.Ys with ⟨-,e0,-⟩ | ⟨p,al,e1,-,e3,-⟩
    ·have:w.th.length=0:=e0;omega
    ·exact⟨p,e1,e3⟩
   have ac:Xr (∀i,ae [] v i->i.cell? ⟨p,f,none⟩=some (int i64 w.th[f])/\p<i.heap.size):=fun i k=>by
    have o':aB i (H 2) (bu w.th):=(O.o.Yh k).bag.YF 2;exact⟨o'.cell Y f _ (by simp[bu,jF,E]),o'.lt (by unfold Hd.Yv;rw[Y];rfl)⟩
   have az:(f:Int)<=(H 2).cap:=(by omega);have K:Xr _:=Y;have L:Xr _:=E;clear U h0 hf Y;go_enter func142,ntmps142;(go_upto_region 3 with (first | (go_at_call 98;refine Ug B.o ?_;rintro e u ⟨rfl,d⟩;unfold eW) | (go_at_call 161;refine(dj l[n].Yw _ _ _ _ _ _ _ _).mono ?_;rintro e X ⟨rfl,g⟩)));have b:Xr _:=O.o.Yh (d.trans g);have D:Xr _:=M.o X (d.trans g);have r:Xr _:=d.trans g;clear q J F d g;obtain⟨q,-⟩:=b.o.cells;(go_upto_region 4 with (go_at_call 143;refine Ug D.o ?_;rintro e G ⟨af,rfl,-,-,A⟩));have c:Xr _:=b.o.Yh A;have C:Xr (aw T v H G H):=(aw.refl _ _ _).Yh (r.o.trans A);obtain⟨ce,cz⟩:=ac.o G (r.o.trans A);clear q A;obtain⟨q,J,Z,F⟩:=c.o.cells;rw[K.o]at F;have ap:=c.o.bag.free;have HB:Xr (bn (G.setCell ⟨T,3,none⟩ (slice (some ⟨p,0,none⟩) f (H 2).cap)) T 171 (tA S x { w with th:=w.th.take f } H) (gN { w with th:=w.th.take f }) H/\aw T G H (G.setCell ⟨T,3,none⟩ (slice (some ⟨p,0,none⟩) f (H 2).cap)) H):=by
    have V:=c.o.bag
    have z:=V.reset (rows':=gN { w with th:=w.th.take f }) 3 (slice (some ⟨p,0,none⟩) f (H 2).cap) (by
     intro j
     match j with
     | 0=>exact V.YF 0
     | 1=>exact V.YF 1
     | 2=>exact aB.cutN (V.YF 2) f (Vb L.o)
     | m+3=>exact V.YF (m+3))
    have e:(tA S x w H).set 3 (slice (some ⟨p,0,none⟩) f (H 2).cap)=tA S x { w with th:=w.th.take f } H:=by
     have:(w.th.take f).length=f:=(by rw[U6];have:=L.o;omega);simp only[tA,List.set_cons_succ,List.set_cons_zero];rw[K.o,this]
    rw[e]at z;exact z
   generalize w.th[f]=bg at *;go_wp2;go_ret;exact⟨T0 (by rw[y.o,HG.o]),by rw[y.o];exact c.o.turned HB.o.2 HB.o.1,C.o.trans HB.o.2⟩
theorem MZ{W:Xt}(b:y<=d)(a:d<W.length):(W.drop y).take (d+1-y)=(W.drop y).take (d-y)++[W[d]]:=by
 rw[show d+1-y=(d-y)+1 by omega,WG,VQ,show y+(d-y)=d by omega,Ub a];rfl
theorem zj{x:Obj}(t:aw y L o D g)(b:d≠y)(a:¬gF o d)(h:L.heap[d]?=some x):D.heap[d]?=some x:=by
 rw[t.1.block d (aj h) (by rintro (e | e);exact b e;exact a e)];exact h
theorem GC(P:lY a v T S x w H)(hn:n<w.sp.length)(h1:w.sp[n].1<=w.sp[n].2)(h2:w.sp[n].2<=w.W.length)(hW:w.W.length<=64) :
  Calls prog 141 #[pointer (some ⟨T,0,none⟩),int i64 n] v fun e w'=>e=returned (tuple #[])/\∃c,lY a w' T S x { w with W:=w.W++uZ w.W (w.sp.getD n (0,0)) } c/\aw T v H w' c:=by
 obtain⟨i0,hi,an,ap,ar⟩:=UC jN;have I:aB v (H 1) (rd w.sp):=P.bag.YF 1;obtain⟨gs,es,ad,cs⟩:=(aB.srcG (f:=QL) I (fun _=>rfl)) n _ (Ub hn);have c0:=cs 0 _ rfl;have c1:=cs 1 _ rfl;rw[VD]at c0;have HD:Xr (w.sp.getD n (0,0)=w.sp[n]):=cM (by rw[Uc,Ub hn];rfl);rw[HD.o];clear HD;generalize w.sp[n]=p at *;obtain⟨s,t⟩:=p;simp only at h1 h2 c0 c1;obtain⟨-,L,p2,-⟩:=P.cells;rw[es]at p2;have ac:=P.bag.lt;have a6:¬(n:Int) ≥ w.sp.length:=by omega
 have az:(n:Int)<w.sp.length:=by omega
 have a5:¬(n:Int)<0:=by omega
 obtain⟨X,HX⟩:=bm (v.alloc (.cells #[int i64 s,int i64 t] 232));have F:Xr _:=fg HX.o;have E:Xr _:=fE HX.o;have O:Xr (v.heap.size≠T):=by show _≠_;omega
 have N:Xr (¬gF H v.heap.size):=fun hx=>by have:=P.bag.inlt hx;omega
 have R:Xr (lY a X T S x { w with W:=w.W++(w.W.drop s).take (s-s) } H):=by
  show lY _ _ _ _ _ _ _;rw[U3,V4,UE];exact P.Yh F.o
 obtain⟨f0,-⟩:=xx E.o;clear P I cs es;go_enter func141,ntmps141;go_upto_region 2 with fail
 rw[HX.o];clear c0 c1 L p2 ad ac;go_wp2
 go_loopg [5] (t-s) (fun gk iv wr=>∃(j:Nat) (c:Nat->Hd),s<=j/\j<=t/\gk=t-j/\iv=int i64 j/\Xr (lY a wr T S x { w with W:=w.W++(w.W.drop s).take (j-s) } c)/\Xr (aw T X H wr c))
 ·exact⟨s,H,Ue _,h1,rfl,rfl,R,aw.refl _ _ _⟩
 obtain⟨j,c,al,a4,a1,rfl,d,U⟩:=hrel;have Bw:=zj U.o O.o N.o E.o;obtain⟨-,f1⟩:=xx Bw;have a2:(j:Int) ≥ 0:=by omega
 obtain⟨Z,y⟩:=bm (w.W++(w.W.drop s).take (j-s));have aT:w.W.length<=Z.length:=by rw[<-y.o,Uh];omega
 have a0:Z.length<=128:=by rw[<-y.o,Uh,U6,UX];omega
 rw[y.o]at d;obtain⟨-,L,-,-⟩:=d.o.cells;simp only at L;rcases kn j t with ⟨ag,a3⟩ | ⟨ag,-⟩
 ·have af:j<Z.length:=by omega
  have ax:(j:Int)<Z.length:=by omega
  have G:Xr (Z[j]=w.W[j]'(by omega)):=by
   show _=_;simp only[<-y.o];rw[List.getElem_append_left]
  have Q:Xr (w.W++(w.W.drop s).take (j+1-s)=Z++[Z[j]]):=by
   show _=_;rw[G.o,MZ al (by omega),<-Vs,y.o]
  have r:aB wr (c 0) (aD Z):=d.o.bag.YF 0;obtain⟨z,K⟩:∃z,(c 0).ao=some ⟨z,0,none⟩:=by
   rcases r.Ys with ⟨-,e0,-⟩ | ⟨z,aS,e1,-⟩
   ·have:Z.length=0:=e0;omega
   ·exact⟨z,e1⟩
  have cz:wr.cell? ⟨z,j,none⟩=some (string Z[j]):=r.cell K j _ (by simp[aD,dm,af]);have B:Xr _:=K;rw[K]at L;clear r K G;generalize Z[j]=A at *;have q:=d.o.bag.Yh ((ae.refl [] wr).alloc (.cells #[string A] 9));have ai:Xr (∀k,k≠0->gN { w with W:=Z++[A] } k=gN { w with W:=Z } k):=by
   intro k l
   match k,l with
   | 0,l=>exact absurd rfl l
   | 1,_=>rfl
   | 2,_=>rfl
   | m+3,_=>rfl
  have M:Xr (slice (some ⟨z,0,none⟩) (aD Z).n (c 0).cap=slice (c 0).ao (aD Z).n (c 0).cap):=cM (by rw[B.o]);go_wp2_with (at_builtin;refine aN _ rfl (.tmp 57) (.tmp 59) 61 rfl i0 (string ⟨#[]⟩) 16 (c 0) (aD Z) underlying61 hi an ap ar rfl UA (by rw[<-M.o];simp[Act.eval,aD]) (by exact q.YF 0) ⟨_,0,none⟩ 1 1 [string A] rfl rfl ?e1 ?e2 UA ?e3 ?e4 ?_)
  case e1=>intro k u l;match k,l with | 0,l=>simp at l;subst l;simp[Addr.add]
  case e2=>intro u hu;simp at hu;subst hu;rfl
  case e3=>simp only[aD];unfold maxLen;omega
  case e4=>simp only[aD];omega
  intro g4 g w4 J i b;obtain⟨k4,f4,C⟩:=q.app (cs':=tA S x { w with W:=Z++[A] } (ie c 0 ⟨some ⟨g4,0,none⟩,g⟩)) (rows':=gN { w with W:=Z++[A] }) 1 0 g4 g ((aD Z).n+1) _ J (eI Z A) i (by simpa using b) ai.o (slice (c 0).ao Z.length (c 0).cap) rfl (by simp[tA,ie,aD]);rw[B.o]at k4;have D:Xr _:=C.o.2.first (bM.alloc _);have Y:Xr _:=d.o.turned D.o C.o.1;have V:Xr _:=U.o.trans D.o;clear J i b q;go_wp2;go_roundg (t-(j+1))
  ·exact⟨j+1,_,by omega,by omega,rfl,by go_num,by show lY _ _ _ _ _ _ _;rw[Q.o];exact Y.o,V⟩
  omega
 ·have e:j=t:=by omega
  subst e;have a7:¬(j:Int)<(j:Int):=by omega
  go_wp2;go_end0;exact⟨rfl,c,by rw[<-y.o]at d;exact d.o,U.o.first F.o⟩
section
attribute [local go_sem] vZ
structure Q7(q:uP)(i:Nat):Prop where
 n:q.sp.length=i
 t:q.th.length<=i
 s:∀p∈q.sp,p.1<=p.2/\p.2<=q.W.length
 h:∀x∈q.th,x<=q.W.length
theorem QZ:Q7 ⟨[],[],[]⟩ 0:=⟨rfl,Ue _,(fun p a=>by cases a),fun x b=>by cases b⟩
theorem Bm{c:Nat}(g:Q7 k y):(jz c k.W.length k.th).1<=k.W.length/\(jz c k.W.length k.th).2.length<=y/\∀x∈(jz c k.W.length k.th).2,x<=k.W.length:=by
 unfold jz;split
 ·exact⟨Ue _,g.t,g.h⟩
 ·next h =>
  refine⟨?_,by rw[U6];have:=g.t;omega,fun x a=>g.h x (Wf a)⟩;rw[Uc,Ub (by omega)];exact g.h _ (Uu _)
theorem Q7.step{c:Nat->Nat}{lb:Nat->Xs}{i:Nat}(g:Q7 k i)(s:jg):Q7 (xg c lb k s) (i+1):=by
 unfold xg;split
 ·refine⟨by rw[Uh,g.n];rfl,by rw[Uh];have:=g.t;show _+1<=_;omega,fun p a=>?_,fun x b=>?_⟩
  ·rcases UG.1 a with a | a
   ·have:=g.s p a;simp only[List.length_append];omega
   ·rw[Uq.1 a];simp
  ·rcases UG.1 b with b | b
   ·have:=g.h x b;simp only[List.length_append];omega
   ·rw[Uq.1 b];simp
 ·next j =>
  obtain⟨e,f,d⟩:=Bm (c:=c s.Yd) g;refine⟨by rw[Uh,g.n];rfl,by rw[Uh];show _+1<=_;omega,fun p a=>?_,fun x b=>?_⟩
  ·rcases UG.1 a with a | a
   ·have:=g.s p a;simp only[List.length_append];omega
   ·rw[Uq.1 a];simp only[List.length_append,List.length_singleton];omega
  ·rcases UG.1 b with b | b
   ·have:=d x b;simp only[List.length_append];omega
   ·rw[Uq.1 b];simp only[List.length_append];omega
theorem Jv{c:Nat->Nat}{lb:Nat->Xs}(h:k.W.length<=64):(xg c lb k b).W.length<=129:=by
 unfold xg;split
 ·simp only[List.length_append];unfold uZ;rw[U6,UX];omega
 ·simp only[List.length_append,List.length_singleton];omega
theorem O3(p:Nat×Nat):∀k,k≠1->gN { w with sp:=w.sp++[p] } k=gN w k:=by
 intro k a
 match k,a with
 | 0,_=>rfl
 | 1,a=>exact absurd rfl a
 | 2,_=>rfl
 | m+3,_=>rfl
theorem O4(x:Nat):∀k,k≠2->gN { w with th:=w.th++[x] } k=gN w k:=by
 intro k a
 match k,a with
 | 0,_=>rfl
 | 1,_=>rfl
 | 2,a=>exact absurd rfl a
 | m+3,_=>rfl
theorem O0(x:Xs):∀k,k≠0->gN { w with W:=w.W++[x] } k=gN w k:=by
 intro k a
 match k,a with
 | 0,a=>exact absurd rfl a
 | 1,_=>rfl
 | 2,_=>rfl
 | m+3,_=>rfl
def Rq(w0 w:World)(b rb ro:Nat)(q:uP)(H:Nat->Hd)(e:Ending)(w':World):Prop:=e=returned (tuple #[])/\∃H',lY w0 w' b rb ro q H'/\aw b w H w' H'
theorem Mb(R:fy a S x l I)(ok:j6 l)(P:lY a v T S x w H)(g:Q7 w n)(hW:w.W.length<=64)(hi:n<=2000000)(hn:(b.Yw==3)=false->b.Yd<l.length)(h3:(b.Yw==3)=true->b.Yd<n) :
  Calls prog 102 #[pointer (some ⟨T,0,none⟩),agg #[int i64 b.Yw,int i64 b.Yd,string b.at_.YB,int i64 b.at_.YC,int i64 b.at_.YD]] v fun e D=>Rq a v T S x (xg (ij l) (fP l) w b) H e D:=by
 obtain⟨i0,bl,b1,b2,b3⟩:=UC jN;obtain⟨i1,bo,bz,bT,b0⟩:=UC RN;obtain⟨i2,bp,bv,bw,bx⟩:=UC yb;have b6:w.sp.length<=n:=XZ g.n;have ca:n<=w.sp.length:=XZ g.n.symm;have gt:=g.t;obtain⟨W,HW⟩:=bm (v.alloc (.cells #[int i64 b.Yw,int i64 b.Yd,string b.at_.YB,int i64 b.at_.YC,int i64 b.at_.YD] 174));have an:Xr _:=fg HW.o;have HB:Xr _:=fE HW.o;obtain⟨u0,u1,-⟩:=lr HB.o;have ba:Xr (v.heap.size≠T):=by show _≠_;have:=P.bag.lt;omega
 have a7:Xr (¬gF H v.heap.size):=fun hx=>by have:=P.bag.inlt hx;omega
 have F:Xr (lY a W T S x w H):=P.Yh an.o;obtain⟨-,p1,-,-⟩:=F.o.cells;have HR:Xr _:=R;obtain⟨d,f,a0⟩:∃(d:uP) (f:Nat),Xr (xg (ij l) (fP l) w b=⟨d.W,w.sp++[(f,d.W.length)],d.th++[f]⟩/\d.sp=w.sp/\d.W.length<=129/\d.th.length<=n/\((b.Yw==3)=true->d={ w with W:=w.W++uZ w.W (w.sp.getD b.Yd (0,0)) }/\f=w.W.length)/\((b.Yw==3)=false->d=⟨w.W++[fP l b.Yd],w.sp,(jz (ij l b.Yd) w.W.length w.th).2⟩/\f=(jz (ij l b.Yd) w.W.length w.th).1)):=by
  have hl:=Jv (c:=ij l) (lb:=fP l) b hW;unfold xg at hl ⊢;cases i:(b.Yw==3)
  ·rw[i,Ud (by simp)]at hl;refine⟨⟨w.W++[fP l b.Yd],w.sp,(jz (ij l b.Yd) w.W.length w.th).2⟩,(jz (ij l b.Yd) w.W.length w.th).1,?_,rfl,hl,(Bm g).2.1,(fun h=>by cases h),fun _=>⟨rfl,rfl⟩⟩;rw[Ud (by simp)];simp
  ·rw[i,Uf rfl]at hl;exact⟨{ w with W:=w.W++uZ w.W (w.sp.getD b.Yd (0,0)) },w.W.length,by rw[Uf rfl],rfl,hl,gt,fun _=>⟨rfl,rfl⟩,(fun h=>by cases h)⟩
 obtain⟨HF,L,br,ce,N,K⟩:Xr (xg (ij l) (fP l) w b=⟨d.W,w.sp++[(f,d.W.length)],d.th++[f]⟩)/\Xr (d.sp=w.sp)/\d.W.length<=129/\d.th.length<=n/\Xr ((b.Yw==3)=true->d={ w with W:=w.W++uZ w.W (w.sp.getD b.Yd (0,0)) }/\f=w.W.length)/\Xr ((b.Yw==3)=false->d=⟨w.W++[fP l b.Yd],w.sp,(jz (ij l b.Yd) w.W.length w.th).2⟩/\f=(jz (ij l b.Yd) w.W.length w.th).1):=a0.o;have cb:f<=w.W.length:=by
  cases i:(b.Yw==3)
  ·rw[(K.o i).2];exact(Bm g).1
  ·rw[(N.o i).2];omega
 have HN:Xr _:=hn;have HG:Xr _:=g;have H3:Xr _:=h3;rw[HF.o];clear HF a0 P R hn h3 g;go_enter func102,ntmps102;go_upto_region 1 with fail
 rw[HW.o];go_upto_if 12 with fail
 go_cut [4] from 12 to 37 (fun s4 wd=>∃J,s4=int i64 f/\Xr (lY a wd T S x d J)/\Xr (aw T W H wd J))
 case first =>
  cases i:(b.Yw==3)
  ·have ag:=HN.o i;obtain⟨e1,e2⟩:=K.o i;have aT:Xr _:=(Cu a W T S x b.Yd l I w H HR.o ok F.o ag (by omega));have ap:Xr (fP l b.Yd=l[b.Yd].Yx):=cM (by unfold fP;rw[wU l _ ag]);rw[ap.o]at e1;have ax:Xr (∀D,ae [] a D->Calls prog 98 #[pointer (some ⟨S,x,none⟩),int i64 b.Yd] D fun e al=>e=returned (eW l[b.Yd] (I (10+2*b.Yd)) (I (11+2*b.Yd)))/\ae [] D al):=fun D k=>bC S x b.Yd l I D (HR.o.Yh k) ag;generalize jz (ij l b.Yd) w.W.length w.th=A at *;obtain⟨b5,r⟩:=A;simp only at aT e1 e2;subst e2;subst e1;clear ap N K L;generalize l[b.Yd]=C at *;(go_upto_region 5 with (go_at_call 142;refine Ug aT.o ?_;rintro e w3 ⟨rfl,P3,T3⟩));have E:Xr (lY a w3 T S x ⟨w.W,w.sp,r⟩ H):=P3;have ac:Xr (aw T W H w3 H):=T3;have a6:Xr _:=zj T3 ba.o a7.o HB.o;clear u0 u1 p1 P3 T3;obtain⟨-,v1,-⟩:=lr a6.o;obtain⟨c0,c1,-,-⟩:=E.o.cells;simp only at c1;have az:Xr (∀D,ae [] w3 D->Calls prog 98 #[pointer (some ⟨S,x,none⟩),int i64 b.Yd] D fun e al=>e=returned (eW C (I (10+2*b.Yd)) (I (11+2*b.Yd)))/\ae [] D al):=fun D k=>ax.o D (E.o.Yu.trans k);clear ax;have s4:Xr ((aD w.W).n+1<=maxLen):=by show _<=_;simp only[aD];unfold maxLen;omega
   have s5:Xr (((aD w.W).n+1)*16<=140737488355328):=(by show _<=_;simp only[aD];omega);have s3:Xr (∀u∈([string C.Yx]:List Value),u.oneCell'=true):=(by intro u Y;simp at Y;subst Y;rfl);have bj:Xr (∀G,ae [] w3.drew G->lY a G T S x ⟨w.W,w.sp,r⟩ H/\lY a (G.alloc (.cells #[string C.Yx] 9)) T S x ⟨w.W,w.sp,r⟩ H/\∀j u,([string C.Yx]:List Value)[j]?=some u->(G.alloc (.cells #[string C.Yx] 9)).cell? ((⟨G.heap.size,0,none⟩:Addr).add j)=some u):=by
    intro G k;have z:=E.o.Yh (((ae.refl [] w3).drew).trans k);refine⟨z,z.Yh (bM.alloc _),fun j u hj=>?_⟩;have i:(G.alloc (.cells #[string C.Yx] 9)).heap[G.heap.size]?=some (.cells #[string C.Yx] 9):=Ui _ _;rw[bS,ah i];simpa using hj
   have ai:Xr (∀j,j≠0->gN ⟨w.W++[C.Yx],w.sp,r⟩ j=gN ⟨w.W,w.sp,r⟩ j):=O0 ⟨w.W,w.sp,r⟩ C.Yx;go_region_law (first | (refine cv rfl (.tmp 25) (.tmp 34) 61 rfl i0 (string ⟨#[]⟩) 16 (H 0) (aD w.W) underlying61 bl b1 b2 b3 rfl UA (by simp[Act.eval] <;> rfl) (y1.bag.YF 0) ⟨_,0,none⟩ 1 1 [string C.Yx] (by simp[Act.eval] <;> rfl) rfl y2 s3.o UA s4.o s5.o ?_;intro g5 O w5 a3 a1 y;obtain⟨k5,f5,HP⟩:=bn.app y1.bag (cs':=tA S x ⟨w.W++[C.Yx],w.sp,r⟩ (ie H 0 ⟨some ⟨g5,0,none⟩,O⟩)) (rows':=gN ⟨w.W++[C.Yx],w.sp,r⟩) 1 0 g5 O ((aD w.W).n+1) _ a3 (eI w.W C.Yx) a1 (by simpa using y) ai.o (slice (H 0).ao w.W.length (H 0).cap) rfl (by simp[tA,ie,aD]);clear a3 a1 y) | (go_simp;go_at_call 98;refine(az.o _ (by exact bM.drew)).mono ?_;rintro e G ⟨rfl,k4⟩;obtain⟨y0,y1,y2⟩:=bj.o G k4;obtain⟨n0,n1,n2,n3⟩:=y0.cells;obtain⟨m0,m1,m2,m3⟩:=y1.cells;unfold eW))
   all_goals
    have M:Xr _:=aw.trans ac.o ((HP.o.2.first (bM.alloc _)).first (((ae.refl [] w3).drew).trans k4));have B:Xr _:=F.o.turned M.o HP.o.1;go_wp2_with fail;go_meet
    case rel=>exact⟨_,rfl,B.o,M.o⟩
  ·have cc:=H3.o i;obtain⟨e1,e2⟩:=N.o i;have a2:b.Yd<w.sp.length:=(by omega);obtain⟨z1,z2⟩:=HG.o.s w.sp[b.Yd] (Uu a2);have be:Xr _:=GC a W T S x b.Yd w H F.o a2 z1 z2 hW;subst e2;subst e1;clear N K L z1 z2;go_wp2_with (go_at_call 141;refine Ug be.o ?_;rintro e w3 ⟨rfl,b4,P3,T3⟩);have E:Xr _:=P3;have ac:Xr _:=T3;clear P3 T3;go_meet
   case rel=>exact⟨_,rfl,E,ac⟩
 case rest =>
  obtain⟨J,rfl,B,M⟩:=hcut;clear u0 u1 p1 F HB;obtain⟨c0,c1,c2,c3⟩:=B.o.cells;rw[L.o]at c2;have bk:=B.o.bag.lt;go_upto_region 6 with fail
  go_cut [] from 38 to 53 (fun wd=>∃Z,Xr (lY a wd T S x ⟨d.W,w.sp++[(f,d.W.length)],d.th⟩ Z)/\Xr (aw T W H wd Z))
  case first =>
   have hD:Xr (bn (wc.alloc (.cells #[int i64 f,int i64 d.W.length] 232)).drew T 171 (tA S x ⟨d.W,w.sp,d.th⟩ J) (gN ⟨d.W,w.sp,d.th⟩) J):=by
    have:=B.o.bag.Yh ((ae.refl [] wc).alloc (.cells #[int i64 f,int i64 d.W.length] 232)).drew;have e:d=⟨d.W,w.sp,d.th⟩:=(by rw[<-L.o]);rw[e]at this;exact this
   have s2:Xr (∀j u,(QL (f,d.W.length))[j]?=some u->(wc.alloc (.cells #[int i64 f,int i64 d.W.length] 232)).drew.cell? ((⟨wc.heap.size,0,none⟩:Addr).add j)=some u):=by
    intro j u hj;have i:(wc.alloc (.cells #[int i64 f,int i64 d.W.length] 232)).drew.heap[wc.heap.size]?=some (.cells #[int i64 f,int i64 d.W.length] 232):=Ui _ _;rw[bS,ah i];simpa [QL] using hj
   have s3:Xr (∀u∈QL (f,d.W.length),u.oneCell'=true):=by
    intro u Y;simp only[QL,List.mem_cons,List.not_mem_nil,or_false]at Y;rcases Y with rfl | rfl <;> rfl
   have s4:Xr ((rd w.sp).n+1<=maxLen):=(by show w.sp.length+1<=_;unfold maxLen;omega);have s5:Xr (((rd w.sp).n+1)*16<=140737488355328):=(by show(w.sp.length+1)*16<=_;omega);have ai:Xr (∀j,j≠1->gN ⟨d.W,w.sp++[(f,d.W.length)],d.th⟩ j=gN ⟨d.W,w.sp,d.th⟩ j):=O3 ⟨d.W,w.sp,d.th⟩ (f,d.W.length);have bs:Xr (∀p,(⟨(rd w.sp).e,(rd w.sp).size,(rd w.sp).n+1,(rd w.sp).xs++QL p⟩:ew)=gN ⟨d.W,w.sp++[p],d.th⟩ 1):=fun p=>gU 232 2 QL w.sp p;go_region_law (refine cv rfl (.tmp 42) (.tmp 50) 169 rfl i1 (agg #[int i64 0,int i64 0]) 16 (J 1) (rd w.sp) underlying169 bo bz bT b0 rfl Xo (by simp[Act.eval] <;> rfl) (hD.o.YF 1) ⟨wc.heap.size,0,none⟩ 1 1 (QL (f,d.W.length)) (by simp[Act.eval]) rfl s2.o s3.o UA s4.o s5.o ?_;intro g6 Q w6 a4 V m;obtain⟨k6,f6,s⟩:=bn.app hD.o (cs':=tA S x ⟨d.W,w.sp++[(f,d.W.length)],d.th⟩ (ie J 1 ⟨some ⟨g6,0,none⟩,Q⟩)) (rows':=gN ⟨d.W,w.sp++[(f,d.W.length)],d.th⟩) 2 1 g6 Q ((rd w.sp).n+1) _ a4 (bs.o _) V (by simpa using m) ai.o (slice (J 1).ao w.sp.length (J 1).cap) rfl (by simp[tA,ie,rd,lm]);clear a4 V m)
   all_goals
    have ad:Xr _:=aw.trans M.o (s.o.2.first (bM.alloc _).drew);have bc:Xr _:=B.o.turned (s.o.2.first (bM.alloc _).drew) s.o.1;go_wp2_with fail;go_meet
    case rel=>exact⟨_,bc.o,ad.o⟩
  case rest =>
   obtain⟨Z,s,ad⟩:=hcut;clear c0 c1 c2 c3 bk;obtain⟨-,-,-,d3⟩:=s.o.cells;simp only at d3;have af:=s.o.bag.Yh ((ae.refl [] wc).alloc (.cells #[int i64 f] 3));go_wp2_with (at_builtin;refine aN _ rfl (.tmp 58) (.tmp 60) 24 rfl i2 (int i64 0) 8 (Z 2) (bu d.th) underlying24 bp bv bw bx rfl UA rfl (by exact af.YF 2) ⟨_,0,none⟩ 1 1 [int i64 f] rfl rfl ?e1 ?e2 UA ?e3 ?e4 ?_)
   case e1=>intro k u i;match k,i with | 0,i=>simp at i;subst i;simp[Addr.add]
   case e2=>intro u Y;simp at Y;subst Y;rfl
   case e3=>simp only[bu];unfold maxLen;omega
   case e4=>simp only[bu];omega
   intro g8 U w8 a5 X q;obtain⟨k8,f8,ar⟩:=af.app (cs':=tA S x ⟨d.W,w.sp++[(f,d.W.length)],d.th++[f]⟩ (ie Z 2 ⟨some ⟨g8,0,none⟩,U⟩)) (rows':=gN ⟨d.W,w.sp++[(f,d.W.length)],d.th++[f]⟩) 3 2 g8 U ((bu d.th).n+1) _ a5 (me d.th f) X (by simpa using q) (O4 ⟨d.W,w.sp++[(f,d.W.length)],d.th⟩ f) (slice (Z 2).ao d.th.length (Z 2).cap) rfl (by simp[tA,ie,bu]);have aS:Xr _:=ar.o.2.first (bM.alloc _);have bd:Xr _:=s.o.turned aS.o ar.o.1;have bf:Xr _:=aw.first an.o (aw.trans ad.o aS.o);clear a5 X q af;go_wp2;go_end0;exact⟨rfl,_,bd.o,bf.o⟩
end
end Go.Proofs.YtnbhnocdhbcbcaaGreat

import Derived.Deep.RegionLaw
import Derived.Test.YtnbhnocdhbcbcaaGreatU19
namespace Go.Proofs.YtnbhnocdhbcbcaaGreat
open Go.RowKit Tryz
open Value IntKind Ending
set_option maxHeartbeats 0
variable{w n:World}{b D v:Nat}{x y k:Value}{L:jW}{l d:Hd}{S:Sl}{I:List Sl}{T:Fs}{o:Bool}(i f H:Nat)
structure iH where
 Yx:Xs
 Yi:Int
 why:Int
 YB:Xs
 YC:Int
 YD:Int
def ln(r:iH):List Value:=[string r.Yx,int i64 r.Yi,int i64 r.why,string r.YB,int i64 r.YC,int i64 r.YD]
theorem yX(r:iH):(ln r).length=6:=rfl
def tu(T:List Tk)(S:List Sm)(a:Nat)(P:List ci)(l:Xs)(t:Tk)(M:List Xt):iH :=
 if(dJ P (P.length-1)==0)=false then⟨l,2,11,t.YB,t.YC,t.YD⟩
 else if lE (bb T S a) (M.getD (P.length-1) [])=false then⟨l,2,12,t.YB,t.YC,t.YD⟩ else⟨l,4,0,⟨#[]⟩,0,0⟩
def oh(T:List Tk)(S:List Sm)(a:Nat)(P:List ci)(l:Xs)(t:Tk):Nat->Nat->List Xt->iH
 | 0,_,M=>tu T S a P l t M
 | n+1,i,M=>if((iE T S a P i M).2==0)=false then⟨l,2,(iE T S a P i M).2,(aQ P i).YB,(aQ P i).YC,(aQ P i).YD⟩ else oh T S a P l t n (i+1) (M++[(iE T S a P i M).1])
def lI(T:List Tk)(S:List Sm)(a:Nat)(p:jW)(t:Tk):iH :=
 if(p.why==0)=false then⟨bD T (aq S a),2,p.why,p.YB,p.YC,p.YD⟩
 else if 0<=ik p.st then⟨bD T (aq S a),3,p.why,(aQ p.st (ik p.st).toNat).YB,(aQ p.st (ik p.st).toNat).YC,(aQ p.st (ik p.st).toNat).YD⟩
 else oh T S a p.st (bD T (aq S a)) t p.st.length 0 []
theorem pu{o p q:Value}(h:w.heap[b]?=some (.cells #[x,y,k,o,p,q] 38))(a c d e f g:Value) :
  (w.setCell ⟨b,0,none⟩ a).cell? ⟨b,0,none⟩=some a/\((w.setCell ⟨b,0,none⟩ a).setCell ⟨b,1,none⟩ c).cell? ⟨b,1,none⟩=some c/\(((w.setCell ⟨b,0,none⟩ a).setCell ⟨b,1,none⟩ c).setCell ⟨b,2,none⟩ d).cell? ⟨b,2,none⟩=some d/\((((w.setCell ⟨b,0,none⟩ a).setCell ⟨b,1,none⟩ c).setCell ⟨b,2,none⟩ d).setCell ⟨b,3,none⟩ e).cell? ⟨b,3,none⟩=some e /\
  (((((w.setCell ⟨b,0,none⟩ a).setCell ⟨b,1,none⟩ c).setCell ⟨b,2,none⟩ d).setCell ⟨b,3,none⟩ e).setCell ⟨b,4,none⟩ f).cell? ⟨b,4,none⟩=some f/\((((((w.setCell ⟨b,0,none⟩ a).setCell ⟨b,1,none⟩ c).setCell ⟨b,2,none⟩ d).setCell ⟨b,3,none⟩ e).setCell ⟨b,4,none⟩ f).setCell ⟨b,5,none⟩ g).cell? ⟨b,5,none⟩=some g:=by
 have i:=ab h 0 a;have j:=ab i 1 c;have l:=ab j 2 d;have m:=ab l 3 e;have n:=ab m 4 f;have r:=ab n 5 g;exact⟨by rw[ah i];rfl,by rw[ah j];rfl,by rw[ah l];rfl,by rw[ah m];rfl,by rw[ah n];rfl,by rw[ah r];rfl⟩
theorem fj{r:iH}(h:w.heap[b]?=some (.cells (ln r).toArray 38)) :
  (w.cell? ⟨b,0,none⟩=some (string r.Yx)/\w.cell? ⟨b,1,none⟩=some (int i64 r.Yi)/\w.cell? ⟨b,2,none⟩=some (int i64 r.why)/\w.cell? ⟨b,3,none⟩=some (string r.YB)/\w.cell? ⟨b,4,none⟩=some (int i64 r.YC)/\w.cell? ⟨b,5,none⟩=some (int i64 r.YD)) /\
  (w.frozen? ⟨b,0,none⟩=false/\w.frozen? ⟨b,1,none⟩=false/\w.frozen? ⟨b,2,none⟩=false/\w.frozen? ⟨b,3,none⟩=false/\w.frozen? ⟨b,4,none⟩=false/\w.frozen? ⟨b,5,none⟩=false)/\b<w.heap.size:=by
 refine⟨⟨?_,?_,?_,?_,?_,?_⟩,⟨am h 0,am h 1,am h 2,am h 3,am h 4,am h 5⟩,aj h⟩
 all_goals (rw[ah h];rfl)
def QG:iH:=⟨⟨#[]⟩,0,0,⟨#[]⟩,0,0⟩
def Mp(w:World)(r:iH)(e:Ending)(w':World):Prop:=e=returned (agg (ln r).toArray)/\ae [] w w'
structure Mn(T:List Tk)(S:List Sm)(a:Nat)(p:jW):Prop where
 le:p.st.length<=100000000
 nd:Fj p.st
 st:p.why=0->0<p.st.length/\∀i,i<p.st.length->(aQ p.st i).ref≠-1->Ms T S a p.st i
structure CY(w wr:World)(p:jW)(hp:Hd)(r:iH):Prop where
 e:wr.heap[w.heap.size]?=some (.cells #[slice hp.ao p.st.length hp.cap,int i64 p.why,string p.YB,int i64 p.YC,int i64 p.YD] 122)
 z:wr.heap[w.heap.size+1]?=some (.cells (ln QG).toArray 38)
 r:wr.heap[w.heap.size+2]?=some (.cells (ln r).toArray 38)
 Yu:ae [] w wr
theorem CY.Yh{b:World}{r:iH}(a:CY w n L l r)(k:ae [] n b):CY w b L l r:=⟨k.get a.e (by simp),k.get a.z (by simp),k.get a.r (by simp),a.Yu.trans k⟩
theorem CY.set{r r':iH}(a:CY w n L l r)(i:Nat)(v:Value)(h:(ln r).set i v=ln r'):CY w (n.setCell ⟨w.heap.size+2,i,none⟩ v) L l r':=by
 have k:ae [w.heap.size+2] n (n.setCell ⟨w.heap.size+2,i,none⟩ v):=(ae.refl _ _).sl1 _;refine⟨k.get a.e (by simp),k.get a.z (by simp),?_,a.Yu.sr1 (by simp) _⟩;rw[ab a.r,<-h];simp
theorem CY.prf{r:iH}(a:CY w n L l r):n.cell? ⟨w.heap.size,0,none⟩=some (slice l.ao L.st.length l.cap)/\n.cell? ⟨w.heap.size,1,none⟩=some (int i64 L.why)/\n.cell? ⟨w.heap.size,2,none⟩=some (string L.YB)/\n.cell? ⟨w.heap.size,3,none⟩=some (int i64 L.YC)/\n.cell? ⟨w.heap.size,4,none⟩=some (int i64 L.YD)/\w.heap.size<n.heap.size :=
 ⟨by rw[ah a.e];rfl,by rw[ah a.e];rfl,by rw[ah a.e];rfl,by rw[ah a.e];rfl,by rw[ah a.e];rfl,aj a.e⟩
theorem Td(h:pL w S):∃q o,S.ao=some ⟨q,o,none⟩/\q<w.heap.size:=by
 obtain⟨g,e,a,-⟩:=h.x 0 _ (np S.L 0 h.pos);exact⟨g,0,e,a⟩
theorem Om(g:bJ w n l d)(a:pL w S)(j:∀q o,S.ao=some ⟨q,o,none⟩->l.Yv≠some q):pL n S:=by
 refine⟨⟨fun k x f=>?_,a.ok.nil,a.ok.le⟩,fun k x f=>?_,a.pos,a.le⟩
 ·obtain⟨q,o,e,b,c⟩:=a.ok.src k x f;exact⟨q,o,e,Ul b g.Yu.size,by rw[Uw (g.Yu.block q b (fun i=>j q o e (aR i)))];exact c⟩
 ·obtain⟨q,e,b,c⟩:=a.x k x f;exact⟨q,e,Ul b g.Yu.size,by rw[Uw (g.Yu.block q b (fun i=>j q 0 e (aR i)))];exact c⟩
theorem QJ(g:bJ w n l d)(a:∀S∈I,pL w S)(e:∀S∈I,∀q o,S.ao=some ⟨q,o,none⟩->l.Yv≠some q)(b:pL w S)(m:∀q o,S.ao=some ⟨q,o,none⟩->l.Yv≠some q):∀t∈I++[S],pL n t:=fun t c=>by
 rcases UG.1 c with c | c
 ·exact Om g (a t c) (e t c)
 ·rw[Uq.1 c];exact Om g b m
theorem Pk(g:bJ w n l d)(a:∀S∈I,pL w S)(r:∀S∈I,∀q o,S.ao=some ⟨q,o,none⟩->l.Yv≠some q)(b:pL w S)(m:∀q o,S.ao=some ⟨q,o,none⟩->l.Yv≠some q):∀t∈I++[S],∀q o,t.ao=some ⟨q,o,none⟩->d.Yv≠some q:=fun t c q o e j=>by
 have f:pL w t/\l.Yv≠some q:=by
  rcases UG.1 c with c | c
  ·exact⟨a t c,r t c q o e⟩
  ·rw[Uq.1 c]at e ⊢;exact⟨b,m q o e⟩
 rcases g.Yv with i | ⟨v,i,p⟩
 ·exact f.2 (by rw[<-i];exact j)
 ·rw[i]at j;cases j;obtain⟨x,u,k,s⟩:=Td f.1;rw[e]at k;cases k
  omega
set_option maxRecDepth 100000
theorem CF(T:List Tk)(ar:Xu)(cT:Nat)(S:List Sm)(ap:Xu)(cS:Nat)(p:jW)(hp:Hd)(w:World)(hD:ge w i T ar cT S ap cS)(ok:pM T S f)(hB:Mi T S f)(cj:Rn T S f)(hn:f<S.length)(hE:dS T (aq S f).h)(dt:(aq S f).a<T.length)(dz:(aq S f).z=H+1)(d1:H<T.length)(hP:cN w hp.ao 6 lp p.st)(a7:Mn T S f p) :
  Calls prog 90 #[pointer (some ⟨i,0,none⟩),int i64 f,agg #[slice hp.ao p.st.length hp.cap,int i64 p.why,string p.YB,int i64 p.YC,int i64 p.YD]] w fun e w'=>Mp w (lI T S f p (T.getD H gO)) e w':=by
 obtain⟨W,HW⟩:=bm (((w.alloc (.cells #[slice hp.ao p.st.length hp.cap,int i64 p.why,string p.YB,int i64 p.YC,int i64 p.YD] 122)).alloc (.cells #[string ⟨#[]⟩,int i64 0,int i64 0,string ⟨#[]⟩,int i64 0,int i64 0] 38)).alloc (.cells #[string ⟨#[]⟩,int i64 2,int i64 p.why,string p.YB,int i64 p.YC,int i64 p.YD] 38));have V0:CY w W p hp ⟨⟨#[]⟩,2,p.why,p.YB,p.YC,p.YD⟩:=by
  obtain⟨W1,a4⟩:∃W1,W1=w.alloc (.cells #[slice hp.ao p.st.length hp.cap,int i64 p.why,string p.YB,int i64 p.YC,int i64 p.YD] 122):=⟨_,rfl⟩
  obtain⟨W2,a5⟩:∃W2,W2=W1.alloc (.cells #[string ⟨#[]⟩,int i64 0,int i64 0,string ⟨#[]⟩,int i64 0,int i64 0] 38):=⟨_,rfl⟩
  have O:W1.heap.size=w.heap.size+1:=by rw[a4];simp
  have Q:W2.heap.size=w.heap.size+2:=by rw[a5];simp[O]
  have k0:=fg a4.symm;have k1:=fg a5.symm;have G:=fE a4.symm;have I:W2.heap[w.heap.size+1]?=some (.cells (ln QG).toArray 38):=by rw[a5,<-O];exact Ui _ _
  rw[<-HW.o,<-a4,<-a5];have k2:ae [] W2 (W2.alloc (.cells #[string ⟨#[]⟩,int i64 2,int i64 p.why,string p.YB,int i64 p.YC,int i64 p.YD] 38)):=bM.alloc _;exact⟨k2.get (k1.get G (by simp)) (by simp),k2.get I (by simp),by rw[<-Q];exact Ui _ _,(k0.trans k1).trans k2⟩
 have a2:Xr _:=V0;have HD:Xr _:=hD;have cE:Xr _:=ok;have HP:Xr _:=hP;have d5:=ok.tm;have cy:Xr _:=hB;have cX:Xr _:=cj;have cH:Xr _:=hE;have a3:=a7.le;have bk:Xr _:=a7.nd;have bp:Xr _:=a7.st;have b5:Xr (Calls prog 88 #[pointer (some ⟨i,0,none⟩),int i64 f] W fun e w'=>e=returned (string (bD T (aq S f)))/\ae [] W w'):=by
  have:=pj i f T ar cT S ap cS W (hD.Yh V0.Yu) hn (by rw[bX S f hn];exact dt);rw[bX S f hn]at this;exact this
 have ac:Xr (lI T S f p (T.getD H gO)=if(p.why==0)=false then⟨bD T (aq S f),2,p.why,p.YB,p.YC,p.YD⟩
  else if 0<=ik p.st then⟨bD T (aq S f),3,p.why,(aQ p.st (ik p.st).toNat).YB,(aQ p.st (ik p.st).toNat).YC,(aQ p.st (ik p.st).toNat).YD⟩
  else oh T S f p.st (bD T (aq S f)) (T.getD H gO) p.st.length 0 []):=rfl
 have cc:Xr (∀F:World,ae [] w F->∃gT gs,ar=some ⟨gT,0,none⟩/\ap=some ⟨gs,0,none⟩/\gT<F.heap.size/\gs<F.heap.size/\i<F.heap.size/\F.cell? ⟨i,0,none⟩=some (slice ar T.length cT)/\F.cell? ⟨i,1,none⟩=some (slice ap S.length cS)/\F.cell? ⟨gs,f*4+1,none⟩=some (int i64 ((H:Int)+1))/\F.cell? ⟨gT,H*5+2,none⟩=some (string (T.getD H gO).YB)/\F.cell? ⟨gT,H*5+3,none⟩=some (int i64 (T.getD H gO).YC)/\F.cell? ⟨gT,H*5+4,none⟩=some (int i64 (T.getD H gO).YD)):=fun F kx=>by
  have hd:=ge.Yh HD.o kx;obtain⟨c0,c1,hb⟩:=hd.cells;obtain⟨gs,J,bx,-,q1,-,-⟩:=hd.s.2 f S[f] (Ub hn);rw[bX S f hn,dz,show((H+1:Nat):Int)=(H:Int)+1 by omega]at q1;obtain⟨gT,K,bw,-,-,t2,t3,t4⟩:=hd.t.2 H _ (jf T H d1);exact⟨gT,gs,K,J,bw,bx,hb,c0,c1,q1,t2,t3,t4⟩
 have bj:Xr (∀F,ae [] w F->Calls prog 131 #[agg #[slice hp.ao p.st.length hp.cap,int i64 p.why,string p.YB,int i64 p.YC,int i64 p.YD]] F fun e w'=>e=returned (int i64 (ik p.st))/\ae [] F w'):=fun F kx=>Kh p.st hp.ao hp.cap p.why p.YB p.YC p.YD F (hP.Yh kx) a3;have cl:=FN p.st;obtain⟨iL,ds,ct,cu,cx⟩:=UC FO;clear hD ok hB cj hE hP a7 V0;obtain⟨l,Hl⟩:=bm (bD T (aq S f));rw[Hl.o]at b5 ac;obtain⟨V,c2⟩:=bm (lI T S f p (T.getD H gO));rw[c2.o]at ac ⊢;obtain⟨P,y,pf,pl,pc⟩:=p;simp only at ac bj cl a3 bk bp HP;obtain⟨G,I,m,J,K,Y⟩:=a2.o.prf;obtain⟨⟨n,u,B,C,D,E⟩,⟨Z,f1,f2,f3,f4,f5⟩,c⟩:=fj a2.o.r;obtain⟨⟨z0,O,Q,z3,z4,z5⟩,⟨y0,y1,y2,y3,y4,y5⟩,b⟩:=fj a2.o.z;simp only at n u B C D E;go_enter func90,ntmps90;go_upto_region 2 with fail
 rw[HW.o];go_upto_region 3 with (go_at_call 88;refine Ug b5.o ?_;rintro e w1 ⟨rfl,k1⟩;have V1:=a2.o.Yh k1;obtain⟨⟨u0,-⟩,⟨u1,-⟩,u2⟩:=fj V1.r)
 have ag:Xr (CY w (w1.setCell ⟨w.heap.size+2,0,none⟩ (string l)) ⟨P,y,pf,pl,pc⟩ hp ⟨l,2,y,pf,pl,pc⟩):=V1.set 0 (string l) rfl;obtain⟨X2,cf⟩:=bm (w1.setCell ⟨w.heap.size+2,0,none⟩ (string l));rw[cf.o]at ag ⊢;clear V1 u0 u1 u2 k1 cf;clear G I m J K Y n u B C D E Z f1 f2 f3 f4 f5 c z0 O Q z3 z4 z5 y0 y1 y2 y3 y4 y5 b;obtain⟨G,I,m,J,K,Y⟩:=ag.o.prf;obtain⟨⟨n,u,B,C,D,E⟩,⟨Z,f1,f2,f3,f4,f5⟩,c⟩:=fj ag.o.r;obtain⟨⟨z0,O,Q,z3,z4,z5⟩,⟨y0,y1,y2,y3,y4,y5⟩,b⟩:=fj ag.o.z;simp only at n u B C D E;simp only at G I m J K;cases hy:(y==0)
 ·rw[hy,Uf rfl]at ac;have HX:Xr (V=⟨l,2,y,pf,pl,pc⟩):=ac.o;go_wp2;obtain⟨x0,x1,x2,x3,x4,x5⟩:=pu ag.o.z (string l) (int i64 2) (int i64 y) (string pf) (int i64 pl) (int i64 pc);exact Um (v:=agg #[string l,int i64 2,int i64 y,string pf,int i64 pl,int i64 pc]) (by simp[results,results90,go_sem,x0,x1,x2,x3,x4,x5]) rfl ⟨by rw[HX.o];rfl,(((((ag.o.Yu.sr1 (by simp) _).sr1 (by simp) _).sr1 (by simp) _).sr1 (by simp) _).sr1 (by simp) _).sr1 (by simp) _⟩
 ·rw[hy,Ud (by simp)]at ac;have d0:y=0:=by simpa using hy
  subst d0;have b4:Xr _:=bj.o X2 ag.o.Yu;go_upto_region 6 with (go_at_call 131;refine Ug b4.o ?_;rintro e w3 ⟨rfl,k3⟩)
  have al:Xr _:=ag.o.Yh k3;clear k3;clear G I m J K Y n u B C D E Z f1 f2 f3 f4 f5 c z0 O Q z3 z4 z5 y0 y1 y2 y3 y4 y5 b;obtain⟨G,I,m,J,K,Y⟩:=al.o.prf;obtain⟨⟨n,u,B,C,D,E⟩,⟨Z,f1,f2,f3,f4,f5⟩,c⟩:=fj al.o.r;obtain⟨⟨z0,O,Q,z3,z4,z5⟩,⟨y0,y1,y2,y3,y4,y5⟩,b⟩:=fj al.o.z;simp only at n u B C D E;simp only at G I m J K;rcases cl with ⟨hh,co⟩ | ⟨k,hk,hh⟩
  ·rw[hh,Ud (by omega)]at ac;rw[hh];obtain⟨d4,cs⟩:=bp.o (by trivial);have cV:Xr (∀j,j<P.length->Ms T S f P j):=fun j hi=>cs j hi (co j hi);have cA:Xr (ip w3 w3 ⟨none,0⟩ (mg [])):=⟨Uj _ _ _ _,(by intro k hk;cases hk),ae.refl _ _⟩;have bc:Xr (oh T S f P l (T.getD H gO) (P.length-0) 0 (([]:List Sl).map (·.L))=V):=ac.o.symm;obtain⟨tz,c9⟩:=bm (T.getD H gO);rw[c9.o]at cc bc;clear cs co hh ac bp bj b4;go_wp2;clear G I m J K Y n u B C D E Z f1 f2 f3 f4 f5 c z0 O Q z3 z4 z5 y0 y1 y2 y3 y4 y5 b
   go_loopg [9,10] P.length (fun g o iv wr=>∃(j:Nat) (h:Hd) (A:List Sl),j<=P.length/\g=P.length-j/\o=slice h.ao A.length h.cap/\iv=int i64 j/\Xr (A.length=j)/\Xr (∀s∈A,pL wr s)/\Xr (∀s∈A,∀q o,s.ao=some ⟨q,o,none⟩->h.Yv≠some q)/\Xr (oh T S f P l tz (P.length-j) j (A.map (·.L))=V)/\Xr (ip w3 wr h (mg A)))
   ·exact⟨0,⟨none,0⟩,[],by omega,rfl,rfl,rfl,rfl,(fun s hs=>by cases hs),(fun s hs=>by cases hs),bc,cA⟩
   obtain⟨j,h,A,hi,hg,rfl,rfl,ax,be,bf,HG,az⟩:=hrel;have an:Xr _:=al.o.Yh az.o.Yu;have a1:Xr _:=an.o.Yu;obtain⟨G,I,m,J,K,Y⟩:=an.o.prf;obtain⟨⟨n,u,B,C,D,E⟩,⟨Z,f1,f2,f3,f4,f5⟩,c⟩:=fj an.o.r;obtain⟨⟨z0,O,Q,z3,z4,z5⟩,⟨y0,y1,y2,y3,y4,y5⟩,b⟩:=fj an.o.z;simp only at n u B C D E;simp only at G I m J K;rcases kn j P.length with ⟨a0,d6⟩ | ⟨a0,-⟩
   ·have bo:Xr _:=Lz i f j T ar cT S ap cS P hp.ao hp.cap 0 pf pl pc A h.ao h.cap wr (ge.Yh HD.o a1.o) cE.o cy.o cX.o hn (cN.Yh HP.o a1.o) a3 bk.o a0 (cV.o j a0) (az.o.YF.srcG xc) be.o ax.o;obtain⟨d,hd⟩:∃d,P.length-j=d+1:=⟨P.length-j-1,by omega⟩
    have af:Xr (oh T S f P l tz (d+1) j (A.map (·.L))=V):=(by rw[<-hd];exact HG);rw[oh]at af;have c7:Xr (P.length-(j+1)=d):=cM (by omega);clear hd HG;obtain⟨SR,cR⟩:=bm (iE T S f P j (A.map (·.L)));rw[cR.o]at bo af;obtain⟨sE,sW⟩:=SR;simp only at af;(go_upto_region 15 with (go_at_call 132;refine Ug bo.o ?_;rintro e w4 ⟨s,rfl,cq,bd,cr,k4⟩));have R:Xr _:=an.o.Yh k4;have ce:Xr _:=az.o.Yh k4;have ba:Xr (∀s∈A,pL w4 s):=fun s hs=>(be.o s hs).Yh k4;have cb:Xr (s.L=sE):=cq;have cL:Xr ((sW==0)=true->pL w4 s):=bd;have ca:Xr (∀q o,s.ao=some ⟨q,o,none⟩->h.Yv≠some q):=fun q o e hb=>by
     rcases cr with hm | hf
     ·exact bf.o s hm q o e hb
     ·have:=hf q o e;have:=az.o.YF.lt hb;omega
    clear cq bd cr k4 bo;clear G I m J K Y n u B C D E Z f1 f2 f3 f4 f5 c z0 O Q z3 z4 z5 y0 y1 y2 y3 y4 y5 b;obtain⟨G,I,m,J,K,Y⟩:=R.o.prf;obtain⟨⟨n,u,B,C,D,E⟩,⟨Z,f1,f2,f3,f4,f5⟩,c⟩:=fj R.o.r;obtain⟨⟨z0,O,Q,z3,z4,z5⟩,⟨y0,y1,y2,y3,y4,y5⟩,b⟩:=fj R.o.z;simp only at n u B C D E;simp only at G I m J K;cases hw:(sW==0)
    ·rw[hw,Uf rfl]at af;have HX:Xr (V=⟨l,2,sW,(aQ P j).YB,(aQ P j).YC,(aQ P j).YD⟩):=af.o.symm;obtain⟨gP,aS,aT,-,-,-,q3,q4,q5⟩:=cN.step (cN.Yh HP.o R.o.Yu) j a0;have HQ:Xr (∀F:World,ae [] w F->gP<F.heap.size/\F.cell? ⟨gP,j*6+3,none⟩=some (string (aQ P j).YB)/\F.cell? ⟨gP,j*6+4,none⟩=some (int i64 (aQ P j).YC)/\F.cell? ⟨gP,j*6+5,none⟩=some (int i64 (aQ P j).YD)):=fun F kx=>by
      obtain⟨g2,m,h2,-,-,-,c3,c4,c5⟩:=cN.step (cN.Yh HP.o kx) j a0;rw[aS]at m;cases m
      exact⟨h2,c3,c4,c5⟩
     generalize (aQ P j).YB=sf at *;generalize (aQ P j).YC=sl at *;generalize (aQ P j).YD=sc at *;clear aT q3 q4 q5;(go_upto_region 17 with fail);have M:Xr (CY w (w4.setCell ⟨w.heap.size+2,2,none⟩ (int i64 sW)) ⟨P,0,pf,pl,pc⟩ hp ⟨l,2,sW,pf,pl,pc⟩):=R.o.set 2 (int i64 sW) rfl;obtain⟨X4,br⟩:=bm (w4.setCell ⟨w.heap.size+2,2,none⟩ (int i64 sW));rw[br.o]at M ⊢;clear G I m J K Y n u B C D E Z f1 f2 f3 f4 f5 c z0 O Q z3 z4 z5 y0 y1 y2 y3 y4 y5 b;obtain⟨G,I,m,J,K,Y⟩:=M.o.prf;obtain⟨⟨n,u,B,C,D,E⟩,⟨Z,f1,f2,f3,f4,f5⟩,c⟩:=fj M.o.r;obtain⟨⟨z0,O,Q,z3,z4,z5⟩,⟨y0,y1,y2,y3,y4,y5⟩,b⟩:=fj M.o.z;simp only at n u B C D E;simp only at G I m J K;obtain⟨aT,q3,q4,q5⟩:=HQ.o X4 M.o.Yu;rw[aS]at G;(go_upto_region 18 with fail);have U:Xr (CY w (((X4.setCell ⟨w.heap.size+2,3,none⟩ (string sf)).setCell ⟨w.heap.size+2,4,none⟩ (int i64 sl)).setCell ⟨w.heap.size+2,5,none⟩ (int i64 sc)) ⟨P,0,pf,pl,pc⟩ hp ⟨l,2,sW,sf,sl,sc⟩):=((M.o.set (r':=⟨l,2,sW,sf,pl,pc⟩) 3 (string sf) rfl).set (r':=⟨l,2,sW,sf,sl,pc⟩) 4 (int i64 sl) rfl).set 5 (int i64 sc) rfl;obtain⟨X5,bs⟩:=bm (((X4.setCell ⟨w.heap.size+2,3,none⟩ (string sf)).setCell ⟨w.heap.size+2,4,none⟩ (int i64 sl)).setCell ⟨w.heap.size+2,5,none⟩ (int i64 sc));rw[bs.o]at U ⊢;clear G I m J K Y n u B C D E Z f1 f2 f3 f4 f5 c z0 O Q z3 z4 z5 y0 y1 y2 y3 y4 y5 b;obtain⟨G,I,m,J,K,Y⟩:=U.o.prf;obtain⟨⟨n,u,B,C,D,E⟩,⟨Z,f1,f2,f3,f4,f5⟩,c⟩:=fj U.o.r;obtain⟨⟨z0,O,Q,z3,z4,z5⟩,⟨y0,y1,y2,y3,y4,y5⟩,b⟩:=fj U.o.z;simp only at n u B C D E;go_wp2;obtain⟨x0,x1,x2,x3,x4,x5⟩:=pu U.o.z (string l) (int i64 2) (int i64 sW) (string sf) (int i64 sl) (int i64 sc);exact Um (v:=agg #[string l,int i64 2,int i64 sW,string sf,int i64 sl,int i64 sc]) (by simp[results,results90,go_sem,x0,x1,x2,x3,x4,x5]) rfl ⟨by rw[HX.o];rfl,(((((U.o.Yu.sr1 (by simp) _).sr1 (by simp) _).sr1 (by simp) _).sr1 (by simp) _).sr1 (by simp) _).sr1 (by simp) _⟩
    ·rw[hw,Ud (by simp)]at af;have dT:sW=0:=(by simpa using hw);subst dT;have b6:Xr _:=cL.o rfl;rw[<-cb.o]at af;have cB:Xr (([slice s.ao sE.length s.cap]:List Value)=GM s):=cM (by unfold GM;rw[cb.o]);have dg:=ce.o.YF;have cF:Xr ((mg A).n<=900000000):=by show A.length<=_;rw[ax.o];omega
     go_wp2_with (at_builtin;refine cI _ rfl (.tmp 71) (.tmp 73) 218 rfl iL (slice none 0 0) 24 h (mg A) [slice s.ao sE.length s.cap] underlying218 ds ct cu cx rfl UA rfl dg cF.o (by omega) rfl rfl (by simp[Value.oneCell']) ?_;intro h7 w7 bz a6;rw[cB.o,rO]at bz;have cz:Xr _:=ce.o.Yr a6 bz;have bT:Xr _:=QJ a6 ba.o bf.o b6.o ca.o;have b0:Xr _:=Pk a6 ba.o bf.o b6.o ca.o;clear bz a6);go_roundg (P.length-(j+1))
     ·exact⟨j+1,h7,A++[s],by omega,rfl,by simp[mg,lm],by go_num,by show _=_;rw[Uh,ax.o];rfl,bT,b0,by rw[c7.o,UJ];exact af,cz⟩
     omega
   ·obtain⟨q,hq⟩:∃q,P.length=q+1:=⟨P.length-1,by omega⟩
    have d2:¬(j:Int)<P.length:=(by omega);have eb:IntKind.i64.wrap ((P.length:Int)-1)=(q:Int):=(by rw[Vv];omega);have af:Xr (tu T S f P l tz (A.map (·.L))=V):=(by have:=HG.o;rw[show P.length-j=0 by omega,oh]at this;exact this);have ad:Xr (tu T S f P l tz (A.map (·.L))=if(dJ P q==0)=false then⟨l,2,11,tz.YB,tz.YC,tz.YD⟩ else if lE (bb T S f) (gM A q).L=false then⟨l,2,12,tz.YB,tz.YC,tz.YD⟩ else⟨l,4,0,⟨#[]⟩,0,0⟩):=cM (by unfold tu;rw[show P.length-1=q by omega,ym A q (by rw[ax.o];omega)]);have cp:q<A.length:=(by rw[ax.o];omega);have d3:(q:Int)<A.length:=(by omega);have dv:q<P.length:=(by omega);have ea:(0:Int)<=(q:Int):=(by omega);clear hq HG;rw[af.o]at ad;have b3:Xr _:=(uV P hp.ao hp.cap 0 pf pl pc a3 bk.o (q+1) q wr (by omega) dv (cN.Yh HP.o a1.o));generalize dJ P q=bg at *;have b2:Xr (∀F,ae [] w F->Calls prog 73 #[pointer (some ⟨i,0,none⟩),int i64 (f:Int)] F fun e w'=>∃h',e=returned (slice h'.ao (bb T S f).length h'.cap)/\zX F w' h' (bb T S f)):=fun F kx=>by
     have:=mA i f T ar cT S ap cS F (ge.Yh HD.o kx) hn (by omega) (by rw[bX S f hn];exact cH.o);rw[bX S f hn]at this;exact this
    have dk:(bb T S f).length<=T.length:=l5 T _;obtain⟨X,c6⟩:=bm (bb T S f);rw[c6.o]at b2 dk ad;(go_upto_region 22 with (go_at_call 133;refine Ug b3.o ?_;rintro e w4 ⟨rfl,k4⟩));have b1:Xr _:=b2.o w4 (a1.o.trans k4);(go_upto_region 23 with (go_at_call 73;refine Ug b1.o ?_;rintro e w5 ⟨h5,rfl,x5⟩));have k5:=k4.trans x5.Yu;have M:Xr _:=an.o.Yh k5;obtain⟨gA,df,dp,db⟩:=cN.sl ((az.o.Yh k5).YF.srcG xc) q cp;have cP:Xr _:=(be.o (gM A q) (kD A q cp)).Yh k5;have bl:Xr _:=(EE X (gM A q).L h5.ao (gM A q).ao h5.cap (gM A q).cap w5 x5.YF.srcX cP.o.x (by omega));generalize gM A q=s at *;obtain⟨sm,c8⟩:=bm (lE X s.L);rw[c8.o]at bl ad;rw[df];clear k4 k5 x5 b1 b3;clear G I m J K Y n u B C D E Z f1 f2 f3 f4 f5 c z0 O Q z3 z4 z5 y0 y1 y2 y3 y4 y5 b;(go_upto_region 24 with (go_at_call 134;refine Ug bl.o ?_;rintro e w6 ⟨rfl,k6⟩));have U:Xr _:=M.o.Yh k6;clear k6 db dp bl;obtain⟨G,I,m,J,K,Y⟩:=U.o.prf;obtain⟨⟨n,u,B,C,D,E⟩,⟨Z,f1,f2,f3,f4,f5⟩,c⟩:=fj U.o.r;obtain⟨⟨z0,O,Q,z3,z4,z5⟩,⟨y0,y1,y2,y3,y4,y5⟩,b⟩:=fj U.o.z;simp only at n u B C D E;simp only at G I m J K;obtain⟨gT,gs,rfl,rfl,bw,bx,dl,c0,c1,q1,t2,t3,t4⟩:=cc.o w6 U.o.Yu;have d9:(f:Int)<S.length:=(by omega);have ec:(H:Int)<T.length:=(by omega);obtain⟨ts,tr,tf,tl,tc⟩:=tz;simp only at t2 t3 t4 ad;have ai:Xr (CY w (((w6.setCell ⟨w.heap.size+2,3,none⟩ (string tf)).setCell ⟨w.heap.size+2,4,none⟩ (int i64 tl)).setCell ⟨w.heap.size+2,5,none⟩ (int i64 tc)).drew ⟨P,0,pf,pl,pc⟩ hp ⟨l,2,0,tf,tl,tc⟩):=(((U.o.set (r':=⟨l,2,0,tf,pl,pc⟩) 3 (string tf) rfl).set (r':=⟨l,2,0,tf,tl,pc⟩) 4 (int i64 tl) rfl).set (r':=⟨l,2,0,tf,tl,tc⟩) 5 (int i64 tc) rfl).Yh bM.drew;go_region;obtain⟨X7,ch⟩:=bm ((((w6.setCell ⟨w.heap.size+2,3,none⟩ (string tf)).setCell ⟨w.heap.size+2,4,none⟩ (int i64 tl)).setCell ⟨w.heap.size+2,5,none⟩ (int i64 tc)).drew);rw[ch.o]at ai ⊢;clear G I m J K Y n u B C D E Z f1 f2 f3 f4 f5 c z0 O Q z3 z4 z5 y0 y1 y2 y3 y4 y5 b;clear bw bx dl c0 c1 q1 t2 t3 t4 ch;obtain⟨G,I,m,J,K,Y⟩:=ai.o.prf;obtain⟨⟨n,u,B,C,D,E⟩,⟨Z,f1,f2,f3,f4,f5⟩,c⟩:=fj ai.o.r;obtain⟨⟨z0,O,Q,z3,z4,z5⟩,⟨y0,y1,y2,y3,y4,y5⟩,b⟩:=fj ai.o.z;simp only at n u B C D E;simp only at G I m J K;cases ck:(bg==0)
    ·rw[ck,Uf rfl]at ad;have HX:Xr (V=⟨l,2,11,tf,tl,tc⟩):=ad.o;(go_upto_region 27 with fail);have N:Xr (CY w (X7.setCell ⟨w.heap.size+2,2,none⟩ (int i64 11)) ⟨P,0,pf,pl,pc⟩ hp ⟨l,2,11,tf,tl,tc⟩):=ai.o.set 2 (int i64 11) rfl;obtain⟨X8,bv⟩:=bm (X7.setCell ⟨w.heap.size+2,2,none⟩ (int i64 11));rw[bv.o]at N ⊢;clear G I m J K Y n u B C D E Z f1 f2 f3 f4 f5 c z0 O Q z3 z4 z5 y0 y1 y2 y3 y4 y5 b;obtain⟨G,I,m,J,K,Y⟩:=N.o.prf;obtain⟨⟨n,u,B,C,D,E⟩,⟨Z,f1,f2,f3,f4,f5⟩,c⟩:=fj N.o.r;obtain⟨⟨z0,O,Q,z3,z4,z5⟩,⟨y0,y1,y2,y3,y4,y5⟩,b⟩:=fj N.o.z;simp only at n u B C D E;go_wp2;obtain⟨x0,x1,x2,x3,x4,x5⟩:=pu N.o.z (string l) (int i64 2) (int i64 11) (string tf) (int i64 tl) (int i64 tc);exact Um (v:=agg #[string l,int i64 2,int i64 11,string tf,int i64 tl,int i64 tc]) (by simp[results,results90,go_sem,x0,x1,x2,x3,x4,x5]) rfl ⟨by rw[HX.o];rfl,(((((N.o.Yu.sr1 (by simp) _).sr1 (by simp) _).sr1 (by simp) _).sr1 (by simp) _).sr1 (by simp) _).sr1 (by simp) _⟩
    ·rw[ck,Ud (by simp)]at ad;cases sm
     ·rw[Uf rfl]at ad;have HX:Xr (V=⟨l,2,12,tf,tl,tc⟩):=ad.o;(go_upto_region 30 with fail);have N:Xr (CY w (X7.setCell ⟨w.heap.size+2,2,none⟩ (int i64 12)) ⟨P,0,pf,pl,pc⟩ hp ⟨l,2,12,tf,tl,tc⟩):=ai.o.set 2 (int i64 12) rfl;obtain⟨X8,bv⟩:=bm (X7.setCell ⟨w.heap.size+2,2,none⟩ (int i64 12));rw[bv.o]at N ⊢;clear G I m J K Y n u B C D E Z f1 f2 f3 f4 f5 c z0 O Q z3 z4 z5 y0 y1 y2 y3 y4 y5 b;obtain⟨G,I,m,J,K,Y⟩:=N.o.prf;obtain⟨⟨n,u,B,C,D,E⟩,⟨Z,f1,f2,f3,f4,f5⟩,c⟩:=fj N.o.r;obtain⟨⟨z0,O,Q,z3,z4,z5⟩,⟨y0,y1,y2,y3,y4,y5⟩,b⟩:=fj N.o.z;simp only at n u B C D E;go_wp2;obtain⟨x0,x1,x2,x3,x4,x5⟩:=pu N.o.z (string l) (int i64 2) (int i64 12) (string tf) (int i64 tl) (int i64 tc);exact Um (v:=agg #[string l,int i64 2,int i64 12,string tf,int i64 tl,int i64 tc]) (by simp[results,results90,go_sem,x0,x1,x2,x3,x4,x5]) rfl ⟨by rw[HX.o];rfl,(((((N.o.Yu.sr1 (by simp) _).sr1 (by simp) _).sr1 (by simp) _).sr1 (by simp) _).sr1 (by simp) _).sr1 (by simp) _⟩
     ·rw[Ud (by simp)]at ad;have HX:Xr (V=⟨l,4,0,⟨#[]⟩,0,0⟩):=ad.o;go_wp2;obtain⟨x0,x1,x2,x3,x4,x5⟩:=pu ai.o.z (string l) (int i64 4) (int i64 0) (string ⟨#[]⟩) (int i64 0) (int i64 0);exact Um (v:=agg #[string l,int i64 4,int i64 0,string ⟨#[]⟩,int i64 0,int i64 0]) (by simp[results,results90,go_sem,x0,x1,x2,x3,x4,x5]) rfl ⟨by rw[HX.o];rfl,(((((ai.o.Yu.sr1 (by simp) _).sr1 (by simp) _).sr1 (by simp) _).sr1 (by simp) _).sr1 (by simp) _).sr1 (by simp) _⟩
  ·rw[hh,Uf (by omega),UR]at ac;rw[hh];have d7:(0:Int)<=(k:Int):=by omega
   have d8:(k:Int)<P.length:=(by omega);have HX:Xr (V=⟨l,3,0,(aQ P k).YB,(aQ P k).YC,(aQ P k).YD⟩):=ac.o;obtain⟨gP,aS,aT,-,-,-,q3,q4,q5⟩:=cN.step (cN.Yh HP.o al.o.Yu) k hk;have HQ:Xr (∀F:World,ae [] w F->gP<F.heap.size/\F.cell? ⟨gP,k*6+3,none⟩=some (string (aQ P k).YB)/\F.cell? ⟨gP,k*6+4,none⟩=some (int i64 (aQ P k).YC)/\F.cell? ⟨gP,k*6+5,none⟩=some (int i64 (aQ P k).YD)):=fun F kx=>by
    obtain⟨g2,m,h2,-,-,-,c3,c4,c5⟩:=cN.step (cN.Yh HP.o kx) k hk;rw[aS]at m;cases m
    exact⟨h2,c3,c4,c5⟩
   generalize (aQ P k).YB=sf at *;generalize (aQ P k).YC=sl at *;generalize (aQ P k).YD=sc at *;clear aT q3 q4 q5;(go_upto_region 8 with fail);have R:Xr (CY w (w3.setCell ⟨w.heap.size+2,1,none⟩ (int i64 3)) ⟨P,0,pf,pl,pc⟩ hp ⟨l,3,0,pf,pl,pc⟩):=al.o.set 1 (int i64 3) rfl;obtain⟨X4,br⟩:=bm (w3.setCell ⟨w.heap.size+2,1,none⟩ (int i64 3));rw[br.o]at R ⊢;clear G I m J K Y n u B C D E Z f1 f2 f3 f4 f5 c z0 O Q z3 z4 z5 y0 y1 y2 y3 y4 y5 b;obtain⟨G,I,m,J,K,Y⟩:=R.o.prf;obtain⟨⟨n,u,B,C,D,E⟩,⟨Z,f1,f2,f3,f4,f5⟩,c⟩:=fj R.o.r;obtain⟨⟨z0,O,Q,z3,z4,z5⟩,⟨y0,y1,y2,y3,y4,y5⟩,b⟩:=fj R.o.z;simp only at n u B C D E;simp only at G I m J K;obtain⟨aT,q3,q4,q5⟩:=HQ.o X4 R.o.Yu;rw[aS]at G;(go_upto_region 9 with fail);have M:Xr (CY w (((X4.setCell ⟨w.heap.size+2,3,none⟩ (string sf)).setCell ⟨w.heap.size+2,4,none⟩ (int i64 sl)).setCell ⟨w.heap.size+2,5,none⟩ (int i64 sc)) ⟨P,0,pf,pl,pc⟩ hp ⟨l,3,0,sf,sl,sc⟩):=((R.o.set (r':=⟨l,3,0,sf,pl,pc⟩) 3 (string sf) rfl).set (r':=⟨l,3,0,sf,sl,pc⟩) 4 (int i64 sl) rfl).set 5 (int i64 sc) rfl;obtain⟨X5,bs⟩:=bm (((X4.setCell ⟨w.heap.size+2,3,none⟩ (string sf)).setCell ⟨w.heap.size+2,4,none⟩ (int i64 sl)).setCell ⟨w.heap.size+2,5,none⟩ (int i64 sc));rw[bs.o]at M ⊢;clear G I m J K Y n u B C D E Z f1 f2 f3 f4 f5 c z0 O Q z3 z4 z5 y0 y1 y2 y3 y4 y5 b;obtain⟨G,I,m,J,K,Y⟩:=M.o.prf;obtain⟨⟨n,u,B,C,D,E⟩,⟨Z,f1,f2,f3,f4,f5⟩,c⟩:=fj M.o.r;obtain⟨⟨z0,O,Q,z3,z4,z5⟩,⟨y0,y1,y2,y3,y4,y5⟩,b⟩:=fj M.o.z;simp only at n u B C D E;go_wp2;obtain⟨x0,x1,x2,x3,x4,x5⟩:=pu M.o.z (string l) (int i64 3) (int i64 0) (string sf) (int i64 sl) (int i64 sc);exact Um (v:=agg #[string l,int i64 3,int i64 0,string sf,int i64 sl,int i64 sc]) (by simp[results,results90,go_sem,x0,x1,x2,x3,x4,x5]) rfl ⟨by rw[HX.o];rfl,(((((M.o.Yu.sr1 (by simp) _).sr1 (by simp) _).sr1 (by simp) _).sr1 (by simp) _).sr1 (by simp) _).sr1 (by simp) _⟩
structure gx(w:World)(v:Nat)(fs:Fs)(h:Hd)(on:Bool)(p2 p3 p4:Value):Prop where
 d:w.heap[v]?=some (.cells #[slice h.ao fs.length h.cap,bool on,p2,p3,p4] 85)
 YF:aB w h (de fs)
 far:h.Yv≠some v
 le:fs.length<=4
theorem gx.Yh(a:gx w b T l o x y k)(c:ae [] w n):gx n b T l o x y k :=
 ⟨c.get a.d (by simp),a.YF.Yh c,a.far,a.le⟩
theorem gx.keptS{S:Xv}(a:gx w b T l o x y k)(e:ae S w n)(g:b∉S)(f:∀q,l.Yv=some q->q∉S):gx n b T l o x y k :=
 ⟨e.get a.d g,a.YF.Ym (fun q c=>e.block q (a.YF.lt c) (f q c)),a.far,a.le⟩
theorem aB.putAt{r:ew}(o:aB w l r)(d:l.ao=some ⟨b,0,none⟩)(j:Nat)(v:Value):aB (w.setCell ⟨b,j,none⟩ v) l ⟨r.e,r.size,r.n,r.xs.set j v⟩:=by
 refine⟨by rw[UZ];exact o.1,?_⟩;rcases o.2 with ⟨g,y⟩ | ⟨x,f,a,g,s,t,k,m,p,q⟩
 ·injection g with c
  rw[c]at d;cases d
 ·injection g with c u i
  rw[c]at d;cases d
  refine Uo ⟨b,f,a.setIfInBounds j v,by rw[c,i],s,by rw[ab t],k,m,by rw[Array.size_setIfInBounds];exact p,?_⟩;rw[WM]
  show(a.toList.set j v).take (r.n*r.size)=r.xs.set j v
  rw[<-q,XP]
theorem aB.srcFi(o:aB w l (de T)):om w l.ao l.cap T:=by
 refine⟨?_,fun k m=>?_⟩
 ·rcases o.Ys with ⟨e,b,_⟩ | ⟨g,c,n,p,d,-⟩
  ·have b:T.length=0:=b;omega
  ·exact d
 ·obtain⟨g,a,j,-⟩:=rJ o (show 0<T.length by omega);obtain⟨f,i⟩:=xN T k m;exact⟨g,a,j,o.cell a (k*2) _ f,o.cell a (k*2+1) _ i⟩
set_option maxRecDepth 512
theorem KJ(w:World) :
  Calls prog 29 #[] w fun e a=>e=returned (pointer (some ⟨w.heap.size,0,none⟩))/\gx a w.heap.size [] ⟨none,0⟩ false (pointer none) (slice none 0 0) (slice none 0 0)/\ae [] w a:=by
 have b:Xr (gx (w.alloc (.cells #[slice none 0 0,bool false,pointer none,slice none 0 0,slice none 0 0] 85)) w.heap.size [] ⟨none,0⟩ false (pointer none) (slice none 0 0) (slice none 0 0)):=⟨Ui _ _,Uj _ _ _ _,(by intro e;cases e),by simp⟩;go_enter func29,ntmps29;go_wp2;go_ret;exact⟨rfl,b.o,bM.alloc _⟩
def SJ(w:World)(v:Nat)(fs:Fs)(h:Hd)(n d:Xs)(p2 p3 p4:Value)(e:Ending)(w':World):Prop :=
 e=returned (int i64 (fM fs n d).1)/\((fM fs n d).1=0->∃h',gx w' v (fM fs n d).2 h' false p2 p3 p4/\zv w w' v h h')/\((fM fs n d).1≠0->ae [] w w')
theorem gx.off(a:gx w b T l o x y k):gx (w.setCell ⟨b,1,none⟩ (bool false)) b T l false x y k:=by
 have f:ae [b] w (w.setCell ⟨b,1,none⟩ (bool false)):=(ae.refl _ _).sl1 _;exact⟨by rw[ab a.d];rfl,a.YF.Ym (fun q c=>f.block q (a.YF.lt c) (by simp;intro e;exact a.far (by rw[<-e];exact c))),a.far,a.le⟩
theorem zv.set(r:zv w n b l d)(i:Nat)(u:Value):zv w (n.setCell ⟨b,i,none⟩ u) b l d:=⟨r.Yu.sl1 _,r.Yv⟩
theorem gx.grown{c:Fs}(a:gx w b T l o x y k)(g:bJ w n l d)(j:aB n d (de c))(r:c.length<=4){m:Nat}(s:m=c.length):gx (n.setCell ⟨b,0,none⟩ (slice d.ao m d.cap)) b c d o x y k:=by
 have p:=g.Yu.get a.d (fun i=>a.far (aR i));have v:=aj a.d;have f:d.Yv≠some b:=by
  rcases g.Yv with e | ⟨q,e,i⟩
  ·rw[e];exact a.far
  ·rw[e];intro u;cases u;omega
 have t:ae [b] n (n.setCell ⟨b,0,none⟩ (slice d.ao m d.cap)):=(ae.refl _ _).sl1 _;subst s;exact⟨by rw[ab p];rfl,j.Ym (fun q i=>t.block q (j.lt i) (by simp;intro e;exact f (by rw[<-e];exact i))),f,r⟩
theorem gx.wrote(a:gx w b T l o x y k)(c:l.ao=some ⟨D,0,none⟩)(g:v<T.length)(n d:Xs):gx ((w.setCell ⟨D,v*2,none⟩ (string n)).setCell ⟨D,v*2+1,none⟩ (string d)).drew b (T.set v (n,d)) l o x y k:=by
 have f:l.Yv=some D:=by unfold Hd.Yv;rw[c];rfl
 have i:ae [D] w ((w.setCell ⟨D,v*2,none⟩ (string n)).setCell ⟨D,v*2+1,none⟩ (string d)).drew:=(((ae.refl _ _).sl1 _).sl1 _).drew;have j:aB ((w.setCell ⟨D,v*2,none⟩ (string n)).setCell ⟨D,v*2+1,none⟩ (string d)) l (de (T.set v (n,d))):=by
  have:=(a.YF.putAt c (v*2) (string n)).putAt c (v*2+1) (string d);have e:(⟨(de T).e,(de T).size,(de T).n,((de T).xs.set (v*2) (string n)).set (v*2+1) (string d)⟩:ew)=de (T.set v (n,d)):=by
   simp only[de,List.length_set];rw[IM T v n d g]
  rw[e]at this;exact this
 refine⟨?_,j.Yh bM.drew,a.far,by rw[UZ];exact a.le⟩;rw[UZ];exact i.get a.d (by simp;intro e;exact a.far (by rw[f,e]))
set_option maxRecDepth 100000
theorem Lc(b:Fs)(h:Hd)(R:Bool)(p2 p3 p4:Value)(n d:Xs)(w:World)(U:gx w H b h R p2 p3 p4)(hn:n.size<=1073741824)(hd:d.size<=4294967296) :
  Calls prog 16 #[pointer (some ⟨H,0,none⟩),string n,string d] w fun e w'=>SJ w H b h n d p2 p3 p4 e w':=by
 have F:Xr (Calls prog 35 #[string n,string d] w fun e w'=>e=returned (int i64 (du n d))/\w'=w):=Dv n d w hn hd;cases J:(du n d==0)
 ·have r:Xr (fM b n d=(du n d,b)):=by show _=_;unfold fM;rw[Uf (by simpa using J)]
  generalize du n d=c at *;go_enter func16,ntmps16;go_wp2_with (go_at_call 35;refine Ug F.o ?_;rintro e E ⟨rfl,a⟩;rw[a];clear a);go_ret;exact⟨by rw[r.o];rfl,by rw[r.o];exact⟨(fun q=>by rw[show c=0 from q]at J;cases J),fun _=>ae.refl _ _⟩⟩
 ·have l:du n d=0:=by simpa using J
  rw[l]at F;obtain⟨W,G⟩:=bm (w.alloc (.cells #[string n,string d] 68));have kW:=fg G.o;have BW:=fE G.o;have s:=U.Yh kW;have f:Xr _:=s;have O:W.cell? ⟨H,0,none⟩=some (slice h.ao b.length h.cap):=by rw[ah s.d];rfl
  have z0:=aj s.d;obtain⟨b0,b1⟩:=xx BW;have z:Xr _:=kW;have V:=U.le;have i:Xr _:=(nD b h.ao h.cap n W (by omega) s.YF.srcFi);clear s U kW BW J;obtain⟨m,B⟩:=bm (b.length);rw[B.o]at O i V;rcases qI n b with x | ⟨k,L,x⟩
  ·rw[x]at i;by_cases hl:m=4
   ·have r:Xr (fM b n d=(1,b)):=(by show _=_;unfold fM;rw[Ud (by simpa using l),x,Ud (by omega),Uf (by rw[B.o];omega)]);subst hl;clear x l;go_enter func16,ntmps16;(go_upto_region 5 with (go_at_call 35;refine Ug F.o ?_;rintro e E ⟨rfl,a⟩;rw[a];clear a));rw[G.o];go_wp2_with (go_at_call 36;refine Ug i.o ?_;rintro e E ⟨rfl,a⟩;rw[a];clear a);go_ret;exact⟨by rw[r.o];rfl,by rw[r.o];exact⟨(fun q=>by cases q),fun _=>z.o⟩⟩
   ·have r:Xr (fM b n d=(0,b++[(n,d)])):=(by show _=_;unfold fM;rw[Ud (by simpa using l),x,Ud (by omega),Ud (by rw[B.o];omega)]);have an:((m:Int)==4)=false:=(by simp;omega);have A:Xr ((de b).n=m):=B.o;clear x l;obtain⟨i0,hi,Y,Z,ac⟩:=UC BI;have hD:Xr (gx (W.alloc (.cells #[string n,string d] 68)).drew H b h R p2 p3 p4):=f.o.Yh ((ae.refl [] W).alloc _).drew;have s2:Xr (∀j u,([string n,string d]:List Value)[j]?=some u->(W.alloc (.cells #[string n,string d] 68)).drew.cell? ((⟨W.heap.size,0,none⟩:Addr).add j)=some u):=by
     intro j u hj;rw[bS];have L:(W.alloc (.cells #[string n,string d] 68)).drew.heap[W.heap.size]?=some (.cells #[string n,string d] 68):=Ui _ _;rw[ah L];simpa using hj
    have s3:Xr (∀u∈([string n,string d]:List Value),u.oneCell'=true):=by intro u hu;simp only[List.mem_cons,List.not_mem_nil,or_false]at hu;rcases hu with rfl | rfl <;> rfl
    have s4:Xr ((de b).n+1<=maxLen):=(by show _<=_;rw[A.o];unfold maxLen;omega);have s5:Xr (((de b).n+1)*32<=140737488355328):=(by show _<=_;rw[A.o];omega);go_enter func16,ntmps16;(go_upto_region 5 with (go_at_call 35;refine Ug F.o ?_;rintro e E ⟨rfl,a⟩;rw[a];clear a));rw[G.o];(go_upto_region 9 with (go_at_call 36;refine Ug i.o ?_;rintro e E ⟨rfl,a⟩;rw[a];clear a));go_region_law (refine cv rfl (.tmp 41) (.tmp 43) 33 rfl i0 (agg #[string ⟨#[]⟩,string ⟨#[]⟩]) 32 h (de b) underlying33 hi Y Z ac rfl (show 0<2 by omega) (by rw[A.o];simp[Act.eval]) hD.o.YF ⟨W.heap.size,0,none⟩ 1 1 [string n,string d] (by simp[Act.eval]) rfl s2.o s3.o UA s4.o s5.o ?_;intro Q p S M y K;have T:=(show Xr (bJ W S h ⟨some ⟨Q,0,none⟩,p⟩) from(bJ.Yh ((ae.refl [] W).alloc _).drew).trans (bJ.made y (by simpa using K)));have P:=T.o.Yu.get f.o.d (fun hq=>f.o.far (aR hq));have e5:=am P 0;have e6:S.cell? ⟨H,0,none⟩=some (slice h.ao m h.cap):=(by rw[ah P,<-B.o];rfl);have z5:=aj P)
    all_goals
     have N:aB S ⟨some ⟨Q,0,none⟩,p⟩ (de (b++[(n,d)])):=(by rw[<-yP];exact M);have t:Xr _:=(f.o.grown (m:=(de b).n+1) T.o N (by simp;rw[B.o];omega) (by simp[de]));obtain⟨X,D⟩:=bm (S.setCell ⟨H,0,none⟩ (slice (some ⟨Q,0,none⟩) ((de b).n+1) p));have v:=(show Xr (zv w X H h ⟨some ⟨Q,0,none⟩,p⟩) by rw[<-D.o];exact((zv.of (bJ.Yh z.o)).trans (zv.of T.o)).set 0 _);rw[D.o]at t ⊢;have x1:=am t.o.d 1;have x2:X.cell? ⟨H,1,none⟩=some (bool R):=(by rw[ah t.o.d];rfl);clear M y K P e5 e6 z5 N O D;go_wp2;go_ret;exact⟨by rw[r.o];rfl,by rw[r.o];exact⟨fun _=>⟨_,t.o.off,v.o.set 1 _⟩,fun q=>absurd rfl q⟩⟩
  ·have r:Xr (fM b n d=(0,b.set k (n,d))):=(by show _=_;unfold fM;rw[Ud (by simpa using l),x,Uf (by omega),UR]);rw[x]at i;obtain⟨g,C,af,ag⟩:=rJ f.o.YF (show 0<b.length by omega);obtain⟨g',I,-,q0,q1⟩:=f.o.YF.srcFi.2 k L;rw[C]at I;cases I
   have t:Xr _:=f.o.wrote C L n d;have al:(k:Int)<(m:Int):=(by rw[B.o]at L;omega);have ai:(0:Int)<=(k:Int):=(by omega);have u0:W.frozen? ⟨g,k*2,none⟩=false/\W.frozen? ⟨g,k*2+1,none⟩=false:=by
    rcases f.o.YF.Ys with ⟨e,-,-⟩ | ⟨g2,ad,e1,I,-⟩
    ·rw[e]at C;cases C
    ·rw[C]at e1;cases e1;exact⟨am I _,am I _⟩
   obtain⟨u0,u1⟩:=u0;have v:Xr (zv w ((W.setCell ⟨g,k*2,none⟩ (string n)).setCell ⟨g,k*2+1,none⟩ (string d)).drew H h h):=by
    have hb:h.Yv=some g:=(by unfold Hd.Yv;rw[C];rfl);have:=z.o.mono (S':=H :: h.Yv.toList) (by simp);exact⟨((this.setCell (Us (by rw[hb];simp)) _).setCell (Us (by rw[hb];simp)) _).drew,Us rfl⟩
   rw[C]at O i;clear x l;go_enter func16,ntmps16;(go_upto_region 5 with (go_at_call 35;refine Ug F.o ?_;rintro e E ⟨rfl,a⟩;rw[a];clear a));rw[G.o];(go_upto_region 10 with (go_at_call 36;refine Ug i.o ?_;rintro e E ⟨rfl,a⟩;rw[a];clear a));go_region;obtain⟨X,D⟩:=bm (((W.setCell ⟨g,k*2,none⟩ (string n)).setCell ⟨g,k*2+1,none⟩ (string d)).drew);rw[D.o]at t v ⊢;have x1:=am t.o.d 1;have x2:X.cell? ⟨H,1,none⟩=some (bool R):=(by rw[ah t.o.d];rfl);clear O D q0 q1 u0 u1;go_wp2;go_ret;exact⟨by rw[r.o];rfl,by rw[r.o];exact⟨fun _=>⟨_,t.o.off,v.o.set 1 _⟩,fun q=>absurd rfl q⟩⟩
def Pb(x:jW×Hd):List Value:=[slice x.2.ao x.1.st.length x.2.cap,int i64 x.1.why,string x.1.YB,int i64 x.1.YC,int i64 x.1.YD]
theorem Qq(x:jW×Hd):(Pb x).length=5:=rfl
def gK(L:List (jW×Hd)):ew:=lm 122 5 Pb L
def gD(L:List iH):ew:=lm 38 6 ln L
structure O9(w:World)(v b:Nat)(x0 x1:Value)(PS:List (jW×Hd))(aoP:Xu)(cP:Nat)(RS:List iH)(aoR:Xu)(cR:Nat):Prop where
 d:w.heap[v]?=some (.cells #[x0,x1,pointer (some ⟨b,0,none⟩),slice aoP PS.length cP,slice aoR RS.length cR] 85)
 p:cN w aoP 5 Pb PS
 q:∀x∈PS,cN w x.2.ao 6 lp x.1.st
 r:cN w aoR 6 ln RS
theorem O9.Yh{f:List (jW×Hd)}{c:Xu}{g:List iH}{e:Xu}{i:Nat}(a:O9 w b D x y f c v g e i)(k:ae [] w n):O9 n b D x y f c v g e i :=
 ⟨k.get a.d (by simp),a.p.Yh k,fun l j=>(a.q l j).Yh k,a.r.Yh k⟩
def eK(RS:List iH)(a:Nat):iH:=RS.getD a QG
theorem Cp(b:List iH)(a:Nat)(h:a<b.length):b[a]?=some (eK b a):=by
 unfold eK;rw[Uc,Ub h];rfl
def cG(RS:List iH)(a:Nat):Bool:=((eK RS a).Yi==4)||((eK RS a).Yi==5)
theorem AQ(z A:Value)(t:List (jW×Hd))(k:Xu)(u:Nat)(a:List iH)(l:Xu)(p:Nat)(w:World)(n:O9 w i f z A t k u a l p)(v:H<a.length) :
  Calls prog 67 #[pointer (some ⟨i,0,none⟩),int i64 H] w fun e y=>e=returned (bool (cG a H))/\y=w:=by
 obtain⟨g,rfl,D,c⟩:=n.r H _ (Cp a H v);have B:w.cell? ⟨g,H*6+1,none⟩=some (int i64 (eK a H).Yi):=c 1 _ rfl;have C:w.cell? ⟨i,4,none⟩=some (slice (some ⟨g,0,none⟩) a.length p):=by rw[ah n.d];rfl
 have x:(H:Int)<a.length:=by omega
 have j:Xr (cG a H=(((eK a H).Yi==4)||((eK a H).Yi==5))):=rfl;generalize (eK a H).Yi=s at *;clear n c;cases m:(s==4)
 ·cases q:(s==5)
  ·have b:Xr (cG a H=false):=(by show _=_;rw[j.o,m,q];rfl);go_enter func67,ntmps67;go_wp2;go_ret;exact⟨aE b.o.symm,rfl⟩
  ·have b:Xr (cG a H=true):=(by show _=_;rw[j.o,m,q];rfl);go_enter func67,ntmps67;go_wp2;go_ret;exact⟨aE b.o.symm,rfl⟩
 ·have b:Xr (cG a H=true):=by show _=_;rw[j.o,m];rfl
  go_enter func67,ntmps67;go_wp2;go_ret;exact⟨aE b.o.symm,rfl⟩
end Go.Proofs.YtnbhnocdhbcbcaaGreat

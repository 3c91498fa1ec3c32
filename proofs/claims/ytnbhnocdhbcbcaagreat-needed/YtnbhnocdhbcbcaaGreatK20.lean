import Derived.Deep.RegionLaw
import Derived.Test.YtnbhnocdhbcbcaaGreatK19
namespace Go.Proofs.YtnbhnocdhbcbcaaGreat
open Go.RowKit Tryz
open Value IntKind Ending
set_option maxHeartbeats 0
variable{w n:World}{b D v:Nat}{x y k:Value}{L:jP}{l d:Hd}{S:Sl}{I:List Sl}{T:Fs}{o:Bool}(i f H:Nat)
structure il where
 Ye:Xs
 XS:Int
 why:Int
 Yi:Xs
 Yj:Int
 Yk:Int
def kJ(r:il):List Value:=[string r.Ye,int i64 r.XS,int i64 r.why,string r.Yi,int i64 r.Yj,int i64 r.Yk]
theorem yG(r:il):(kJ r).length=6:=rfl
def tq(T:List Tk)(S:List Sm)(a:Nat)(P:List di)(l:Xs)(t:Tk)(M:List Xt):il :=
 if(dP P (P.length-1)==0)=false then⟨l,2,11,t.Yi,t.Yj,t.Yk⟩
 else if lu (bb T S a) (M.getD (P.length-1) [])=false then⟨l,2,12,t.Yi,t.Yj,t.Yk⟩ else⟨l,4,0,⟨#[]⟩,0,0⟩
def nZ(T:List Tk)(S:List Sm)(a:Nat)(P:List di)(l:Xs)(t:Tk):Nat->Nat->List Xt->il
 | 0,_,M=>tq T S a P l t M
 | n+1,i,M=>if((iD T S a P i M).2==0)=false then⟨l,2,(iD T S a P i M).2,(bN P i).Yi,(bN P i).Yj,(bN P i).Yk⟩ else nZ T S a P l t n (i+1) (M++[(iD T S a P i M).1])
def lA(T:List Tk)(S:List Sm)(a:Nat)(p:jP)(t:Tk):il :=
 if(p.why==0)=false then⟨bP T (aq S a),2,p.why,p.Yi,p.Yj,p.Yk⟩
 else if 0<=ie p.st then⟨bP T (aq S a),3,p.why,(bN p.st (ie p.st).toNat).Yi,(bN p.st (ie p.st).toNat).Yj,(bN p.st (ie p.st).toNat).Yk⟩
 else nZ T S a p.st (bP T (aq S a)) t p.st.length 0 []
theorem ph{o p q:Value}(h:w.heap[b]?=some (.cells #[x,y,k,o,p,q] 38))(a c d e f g:Value) :
  (w.setCell ⟨b,0,none⟩ a).cell? ⟨b,0,none⟩=some a/\((w.setCell ⟨b,0,none⟩ a).setCell ⟨b,1,none⟩ c).cell? ⟨b,1,none⟩=some c/\(((w.setCell ⟨b,0,none⟩ a).setCell ⟨b,1,none⟩ c).setCell ⟨b,2,none⟩ d).cell? ⟨b,2,none⟩=some d/\((((w.setCell ⟨b,0,none⟩ a).setCell ⟨b,1,none⟩ c).setCell ⟨b,2,none⟩ d).setCell ⟨b,3,none⟩ e).cell? ⟨b,3,none⟩=some e /\
  (((((w.setCell ⟨b,0,none⟩ a).setCell ⟨b,1,none⟩ c).setCell ⟨b,2,none⟩ d).setCell ⟨b,3,none⟩ e).setCell ⟨b,4,none⟩ f).cell? ⟨b,4,none⟩=some f/\((((((w.setCell ⟨b,0,none⟩ a).setCell ⟨b,1,none⟩ c).setCell ⟨b,2,none⟩ d).setCell ⟨b,3,none⟩ e).setCell ⟨b,4,none⟩ f).setCell ⟨b,5,none⟩ g).cell? ⟨b,5,none⟩=some g:=by
 have i:=ab h 0 a;have j:=ab i 1 c;have l:=ab j 2 d;have m:=ab l 3 e;have n:=ab m 4 f;have r:=ab n 5 g;exact⟨by rw[ah i];rfl,by rw[ah j];rfl,by rw[ah l];rfl,by rw[ah m];rfl,by rw[ah n];rfl,by rw[ah r];rfl⟩
theorem ff{r:il}(h:w.heap[b]?=some (.cells (kJ r).toArray 38)) :
  (w.cell? ⟨b,0,none⟩=some (string r.Ye)/\w.cell? ⟨b,1,none⟩=some (int i64 r.XS)/\w.cell? ⟨b,2,none⟩=some (int i64 r.why)/\w.cell? ⟨b,3,none⟩=some (string r.Yi)/\w.cell? ⟨b,4,none⟩=some (int i64 r.Yj)/\w.cell? ⟨b,5,none⟩=some (int i64 r.Yk)) /\
  (w.frozen? ⟨b,0,none⟩=false/\w.frozen? ⟨b,1,none⟩=false/\w.frozen? ⟨b,2,none⟩=false/\w.frozen? ⟨b,3,none⟩=false/\w.frozen? ⟨b,4,none⟩=false/\w.frozen? ⟨b,5,none⟩=false)/\b<w.heap.size:=by
 refine⟨⟨?_,?_,?_,?_,?_,?_⟩,⟨am h 0,am h 1,am h 2,am h 3,am h 4,am h 5⟩,aj h⟩
 all_goals (rw[ah h];rfl)
def Ql:il:=⟨⟨#[]⟩,0,0,⟨#[]⟩,0,0⟩
def L9(w:World)(r:il)(e:Ending)(w':World):Prop:=e=returned (agg (kJ r).toArray)/\ae [] w w'
structure L7(T:List Tk)(S:List Sm)(a:Nat)(p:jP):Prop where
 le:p.st.length<=100000000
 nd:OQ p.st
 st:p.why=0->0<p.st.length/\∀i,i<p.st.length->(bN p.st i).ref≠-1->Md T S a p.st i
structure CB(w wr:World)(p:jP)(hp:Hd)(r:il):Prop where
 e:wr.heap[w.heap.size]?=some (.cells #[slice hp.ao p.st.length hp.cap,int i64 p.why,string p.Yi,int i64 p.Yj,int i64 p.Yk] 122)
 z:wr.heap[w.heap.size+1]?=some (.cells (kJ Ql).toArray 38)
 r:wr.heap[w.heap.size+2]?=some (.cells (kJ r).toArray 38)
 Yb:ae [] w wr
theorem CB.XR{b:World}{r:il}(a:CB w n L l r)(k:ae [] n b):CB w b L l r:=⟨k.get a.e (by simp),k.get a.z (by simp),k.get a.r (by simp),a.Yb.trans k⟩
theorem CB.set{r r':il}(a:CB w n L l r)(i:Nat)(v:Value)(h:(kJ r).set i v=kJ r'):CB w (n.setCell ⟨w.heap.size+2,i,none⟩ v) L l r':=by
 have k:ae [w.heap.size+2] n (n.setCell ⟨w.heap.size+2,i,none⟩ v):=(ae.refl _ _).sl1 _;refine⟨k.get a.e (by simp),k.get a.z (by simp),?_,a.Yb.sr1 (by simp) _⟩;rw[ab a.r,<-h];simp
theorem CB.prf{r:il}(a:CB w n L l r):n.cell? ⟨w.heap.size,0,none⟩=some (slice l.ao L.st.length l.cap)/\n.cell? ⟨w.heap.size,1,none⟩=some (int i64 L.why)/\n.cell? ⟨w.heap.size,2,none⟩=some (string L.Yi)/\n.cell? ⟨w.heap.size,3,none⟩=some (int i64 L.Yj)/\n.cell? ⟨w.heap.size,4,none⟩=some (int i64 L.Yk)/\w.heap.size<n.heap.size :=
 ⟨by rw[ah a.e];rfl,by rw[ah a.e];rfl,by rw[ah a.e];rfl,by rw[ah a.e];rfl,by rw[ah a.e];rfl,aj a.e⟩
theorem Sw(h:px w S):∃q o,S.ao=some ⟨q,o,none⟩/\q<w.heap.size:=by
 obtain⟨g,e,a,-⟩:=h.x 0 _ (nh S.L 0 h.pos);exact⟨g,0,e,a⟩
theorem N8(g:bt w n l d)(a:px w S)(j:∀q o,S.ao=some ⟨q,o,none⟩->l.Yc≠some q):px n S:=by
 refine⟨⟨fun k x f=>?_,a.ok.nil,a.ok.le⟩,fun k x f=>?_,a.pos,a.le⟩
 ·obtain⟨q,o,e,b,c⟩:=a.ok.src k x f;exact⟨q,o,e,TP b g.Yb.size,by rw[Ud (g.Yb.block q b (fun i=>j q o e (aQ i)))];exact c⟩
 ·obtain⟨q,e,b,c⟩:=a.x k x f;exact⟨q,e,TP b g.Yb.size,by rw[Ud (g.Yb.block q b (fun i=>j q 0 e (aQ i)))];exact c⟩
theorem Qo(g:bt w n l d)(a:∀S∈I,px w S)(e:∀S∈I,∀q o,S.ao=some ⟨q,o,none⟩->l.Yc≠some q)(b:px w S)(m:∀q o,S.ao=some ⟨q,o,none⟩->l.Yc≠some q):∀t∈I++[S],px n t:=fun t c=>by
 rcases Ut.1 c with c | c
 ·exact N8 g (a t c) (e t c)
 ·rw[T0.1 c];exact N8 g b m
theorem OU(g:bt w n l d)(a:∀S∈I,px w S)(r:∀S∈I,∀q o,S.ao=some ⟨q,o,none⟩->l.Yc≠some q)(b:px w S)(m:∀q o,S.ao=some ⟨q,o,none⟩->l.Yc≠some q):∀t∈I++[S],∀q o,t.ao=some ⟨q,o,none⟩->d.Yc≠some q:=fun t c q o e j=>by
 have f:px w t/\l.Yc≠some q:=by
  rcases Ut.1 c with c | c
  ·exact⟨a t c,r t c q o e⟩
  ·rw[T0.1 c]at e ⊢;exact⟨b,m q o e⟩
 rcases g.Yc with i | ⟨v,i,p⟩
 ·exact f.2 (by rw[<-i];exact j)
 ·rw[i]at j;cases j;obtain⟨x,u,k,s⟩:=Sw f.1;rw[e]at k;cases k
  omega
set_option maxRecDepth 100000
theorem Ck(T:List Tk)(ar:Xu)(cT:Nat)(S:List Sm)(ap:Xu)(cS:Nat)(p:jP)(hp:Hd)(w:World)(hD:gy w i T ar cT S ap cS)(ok:pA T S f)(hB:LV T S f)(cj:QU T S f)(hn:f<S.length)(hE:dU T (aq S f).h)(ds:(aq S f).a<T.length)(dv:(aq S f).z=H+1)(d0:H<T.length)(hP:dh w hp.ao 6 lI p.st)(a6:L7 T S f p) :
  Calls prog 90 #[pointer (some ⟨i,0,none⟩),int i64 f,agg #[slice hp.ao p.st.length hp.cap,int i64 p.why,string p.Yi,int i64 p.Yj,int i64 p.Yk]] w fun e w'=>L9 w (lA T S f p (T.getD H gQ)) e w':=by
 obtain⟨W,HW⟩:=bq (((w.alloc (.cells #[slice hp.ao p.st.length hp.cap,int i64 p.why,string p.Yi,int i64 p.Yj,int i64 p.Yk] 122)).alloc (.cells #[string ⟨#[]⟩,int i64 0,int i64 0,string ⟨#[]⟩,int i64 0,int i64 0] 38)).alloc (.cells #[string ⟨#[]⟩,int i64 2,int i64 p.why,string p.Yi,int i64 p.Yj,int i64 p.Yk] 38));have V0:CB w W p hp ⟨⟨#[]⟩,2,p.why,p.Yi,p.Yj,p.Yk⟩:=by
  obtain⟨W1,a3⟩:∃W1,W1=w.alloc (.cells #[slice hp.ao p.st.length hp.cap,int i64 p.why,string p.Yi,int i64 p.Yj,int i64 p.Yk] 122):=⟨_,rfl⟩
  obtain⟨W2,a4⟩:∃W2,W2=W1.alloc (.cells #[string ⟨#[]⟩,int i64 0,int i64 0,string ⟨#[]⟩,int i64 0,int i64 0] 38):=⟨_,rfl⟩
  have O:W1.heap.size=w.heap.size+1:=by rw[a3];simp
  have Q:W2.heap.size=w.heap.size+2:=by rw[a4];simp[O]
  have k0:=fH a3.symm;have k1:=fH a4.symm;have G:=f9 a3.symm;have I:W2.heap[w.heap.size+1]?=some (.cells (kJ Ql).toArray 38):=by rw[a4,<-O];exact TN _ _
  rw[<-HW.o,<-a3,<-a4];have k2:ae [] W2 (W2.alloc (.cells #[string ⟨#[]⟩,int i64 2,int i64 p.why,string p.Yi,int i64 p.Yj,int i64 p.Yk] 38)):=kr0.alloc _;exact⟨k2.get (k1.get G (by simp)) (by simp),k2.get I (by simp),by rw[<-Q];exact TN _ _,(k0.trans k1).trans k2⟩
 have a1:Xr _:=V0;have HD:Xr _:=hD;have cE:Xr _:=ok;have HP:Xr _:=hP;have d4:=ok.tm;have cy:Xr _:=hB;have cX:Xr _:=cj;have cH:Xr _:=hE;have a2:=a6.le;have bj:Xr _:=a6.nd;have bo:Xr _:=a6.st;have b4:Xr (Calls prog 88 #[pointer (some ⟨i,0,none⟩),int i64 f] W fun e w'=>e=returned (string (bP T (aq S f)))/\ae [] W w'):=by
  have:=rB i f T ar cT S ap cS W (hD.XR V0.Yb) hn (by rw[bV S f hn];exact ds);rw[bV S f hn]at this;exact this
 have ac:Xr (lA T S f p (T.getD H gQ)=if(p.why==0)=false then⟨bP T (aq S f),2,p.why,p.Yi,p.Yj,p.Yk⟩
  else if 0<=ie p.st then⟨bP T (aq S f),3,p.why,(bN p.st (ie p.st).toNat).Yi,(bN p.st (ie p.st).toNat).Yj,(bN p.st (ie p.st).toNat).Yk⟩
  else nZ T S f p.st (bP T (aq S f)) (T.getD H gQ) p.st.length 0 []):=rfl
 have cb:Xr (∀F:World,ae [] w F->∃gT gs,ar=some ⟨gT,0,none⟩/\ap=some ⟨gs,0,none⟩/\gT<F.heap.size/\gs<F.heap.size/\i<F.heap.size/\F.cell? ⟨i,0,none⟩=some (slice ar T.length cT)/\F.cell? ⟨i,1,none⟩=some (slice ap S.length cS)/\F.cell? ⟨gs,f*4+1,none⟩=some (int i64 ((H:Int)+1))/\F.cell? ⟨gT,H*5+2,none⟩=some (string (T.getD H gQ).Yi)/\F.cell? ⟨gT,H*5+3,none⟩=some (int i64 (T.getD H gQ).Yj)/\F.cell? ⟨gT,H*5+4,none⟩=some (int i64 (T.getD H gQ).Yk)):=fun F kx=>by
  have hd:=gy.XR HD.o kx;obtain⟨c0,c1,hb⟩:=hd.cells;obtain⟨gs,J,bw,-,q1,-,-⟩:=hd.s.2 f S[f] (TF hn);rw[bV S f hn,dv,show((H+1:Nat):Int)=(H:Int)+1 by omega]at q1;obtain⟨gT,K,bv,-,-,t2,t3,t4⟩:=hd.t.2 H _ (jd T H d0);exact⟨gT,gs,K,J,bv,bw,hb,c0,c1,q1,t2,t3,t4⟩
 have bf:Xr (∀F,ae [] w F->Calls prog 131 #[agg #[slice hp.ao p.st.length hp.cap,int i64 p.why,string p.Yi,int i64 p.Yj,int i64 p.Yk]] F fun e w'=>e=returned (int i64 (ie p.st))/\ae [] F w'):=fun F kx=>JX p.st hp.ao hp.cap p.why p.Yi p.Yj p.Yk F (hP.XR kx) a2;have cl:=Fu p.st;obtain⟨iL,dp,ct,cu,cx⟩:=Ul Fw;clear hD ok hB cj hE hP a6 V0;obtain⟨l,Hl⟩:=bq (bP T (aq S f));rw[Hl.o]at b4 ac;obtain⟨V,c2⟩:=bq (lA T S f p (T.getD H gQ));rw[c2.o]at ac ⊢;obtain⟨P,y,pf,pl,pc⟩:=p;simp only at ac bf cl a2 bj bo HP;obtain⟨G,I,m,J,K,Y⟩:=a1.o.prf;obtain⟨⟨n,u,B,C,D,E⟩,⟨Z,f1,f2,f3,f4,f5⟩,c⟩:=ff a1.o.r;obtain⟨⟨z0,O,Q,z3,z4,z5⟩,⟨y0,y1,y2,y3,y4,y5⟩,b⟩:=ff a1.o.z;simp only at n u B C D E;go_enter func90,ntmps90;go_upto_region 2 with fail
 rw[HW.o];go_upto_region 3 with (go_at_call 88;refine TM b4.o ?_;rintro e w1 ⟨rfl,k1⟩;have V1:=a1.o.XR k1;obtain⟨⟨u0,-⟩,⟨u1,-⟩,u2⟩:=ff V1.r)
 have ag:Xr (CB w (w1.setCell ⟨w.heap.size+2,0,none⟩ (string l)) ⟨P,y,pf,pl,pc⟩ hp ⟨l,2,y,pf,pl,pc⟩):=V1.set 0 (string l) rfl;obtain⟨X2,cf⟩:=bq (w1.setCell ⟨w.heap.size+2,0,none⟩ (string l));rw[cf.o]at ag ⊢;clear V1 u0 u1 u2 k1 cf;clear G I m J K Y n u B C D E Z f1 f2 f3 f4 f5 c z0 O Q z3 z4 z5 y0 y1 y2 y3 y4 y5 b;obtain⟨G,I,m,J,K,Y⟩:=ag.o.prf;obtain⟨⟨n,u,B,C,D,E⟩,⟨Z,f1,f2,f3,f4,f5⟩,c⟩:=ff ag.o.r;obtain⟨⟨z0,O,Q,z3,z4,z5⟩,⟨y0,y1,y2,y3,y4,y5⟩,b⟩:=ff ag.o.z;simp only at n u B C D E;simp only at G I m J K;cases hy:(y==0)
 ·rw[hy,TJ rfl]at ac;have HX:Xr (V=⟨l,2,y,pf,pl,pc⟩):=ac.o;go_wp2;obtain⟨x0,x1,x2,x3,x4,x5⟩:=ph ag.o.z (string l) (int i64 2) (int i64 y) (string pf) (int i64 pl) (int i64 pc);exact TR (v:=agg #[string l,int i64 2,int i64 y,string pf,int i64 pl,int i64 pc]) (by simp[results,results90,go_sem,x0,x1,x2,x3,x4,x5]) rfl ⟨by rw[HX.o];rfl,(((((ag.o.Yb.sr1 (by simp) _).sr1 (by simp) _).sr1 (by simp) _).sr1 (by simp) _).sr1 (by simp) _).sr1 (by simp) _⟩
 ·rw[hy,TH (by simp)]at ac;have dT:y=0:=by simpa using hy
  subst dT;have b3:Xr _:=bf.o X2 ag.o.Yb;go_upto_region 6 with (go_at_call 131;refine TM b3.o ?_;rintro e w3 ⟨rfl,k3⟩)
  have al:Xr _:=ag.o.XR k3;clear k3;clear G I m J K Y n u B C D E Z f1 f2 f3 f4 f5 c z0 O Q z3 z4 z5 y0 y1 y2 y3 y4 y5 b;obtain⟨G,I,m,J,K,Y⟩:=al.o.prf;obtain⟨⟨n,u,B,C,D,E⟩,⟨Z,f1,f2,f3,f4,f5⟩,c⟩:=ff al.o.r;obtain⟨⟨z0,O,Q,z3,z4,z5⟩,⟨y0,y1,y2,y3,y4,y5⟩,b⟩:=ff al.o.z;simp only at n u B C D E;simp only at G I m J K;rcases cl with ⟨hh,co⟩ | ⟨k,hk,hh⟩
  ·rw[hh,TH (by omega)]at ac;rw[hh];obtain⟨d3,cs⟩:=bo.o (by trivial);have cV:Xr (∀j,j<P.length->Md T S f P j):=fun j hi=>cs j hi (co j hi);have cA:Xr (ik w3 w3 ⟨none,0⟩ (l4 [])):=⟨TQ _ _ _ _,(by intro k hk;cases hk),ae.refl _ _⟩;have ba:Xr (nZ T S f P l (T.getD H gQ) (P.length-0) 0 (([]:List Sl).map (·.L))=V):=ac.o.symm;obtain⟨tz,c9⟩:=bq (T.getD H gQ);rw[c9.o]at cb ba;clear cs co hh ac bo bf b3;go_wp2;clear G I m J K Y n u B C D E Z f1 f2 f3 f4 f5 c z0 O Q z3 z4 z5 y0 y1 y2 y3 y4 y5 b
   go_loopg [9,10] P.length (fun g o iv wr=>∃(j:Nat) (h:Hd) (A:List Sl),j<=P.length/\g=P.length-j/\o=slice h.ao A.length h.cap/\iv=int i64 j/\Xr (A.length=j)/\Xr (∀s∈A,px wr s)/\Xr (∀s∈A,∀q o,s.ao=some ⟨q,o,none⟩->h.Yc≠some q)/\Xr (nZ T S f P l tz (P.length-j) j (A.map (·.L))=V)/\Xr (ik w3 wr h (l4 A)))
   ·exact⟨0,⟨none,0⟩,[],by omega,rfl,rfl,rfl,rfl,(fun s hs=>by cases hs),(fun s hs=>by cases hs),ba,cA⟩
   obtain⟨j,h,A,hi,hg,rfl,rfl,av,bd,be,HG,ax⟩:=hrel;have an:Xr _:=al.o.XR ax.o.Yb;have a0:Xr _:=an.o.Yb;obtain⟨G,I,m,J,K,Y⟩:=an.o.prf;obtain⟨⟨n,u,B,C,D,E⟩,⟨Z,f1,f2,f3,f4,f5⟩,c⟩:=ff an.o.r;obtain⟨⟨z0,O,Q,z3,z4,z5⟩,⟨y0,y1,y2,y3,y4,y5⟩,b⟩:=ff an.o.z;simp only at n u B C D E;simp only at G I m J K;rcases kn j P.length with ⟨aT,d5⟩ | ⟨aT,-⟩
   ·have bl:Xr _:=Lk i f j T ar cT S ap cS P hp.ao hp.cap 0 pf pl pc A h.ao h.cap wr (gy.XR HD.o a0.o) cE.o cy.o cX.o hn (dh.XR HP.o a0.o) a2 bj.o aT (cV.o j aT) (ax.o.Ym.srcG wU) bd.o av.o;obtain⟨d,hd⟩:∃d,P.length-j=d+1:=⟨P.length-j-1,by omega⟩
    have af:Xr (nZ T S f P l tz (d+1) j (A.map (·.L))=V):=(by rw[<-hd];exact HG);rw[nZ]at af;have c7:Xr (P.length-(j+1)=d):=cg (by omega);clear hd HG;obtain⟨SR,cR⟩:=bq (iD T S f P j (A.map (·.L)));rw[cR.o]at bl af;obtain⟨sE,sW⟩:=SR;simp only at af;(go_upto_region 15 with (go_at_call 132;refine TM bl.o ?_;rintro e w4 ⟨s,rfl,cq,bc,cr,k4⟩));have R:Xr _:=an.o.XR k4;have cc:Xr _:=ax.o.XR k4;have a7:Xr (∀s∈A,px w4 s):=fun s hs=>(bd.o s hs).XR k4;have ca:Xr (s.L=sE):=cq;have cL:Xr ((sW==0)=true->px w4 s):=bc;have b6:Xr (∀q o,s.ao=some ⟨q,o,none⟩->h.Yc≠some q):=fun q o e hb=>by
     rcases cr with hm | hf
     ·exact be.o s hm q o e hb
     ·have:=hf q o e;have:=ax.o.Ym.lt hb;omega
    clear cq bc cr k4 bl;clear G I m J K Y n u B C D E Z f1 f2 f3 f4 f5 c z0 O Q z3 z4 z5 y0 y1 y2 y3 y4 y5 b;obtain⟨G,I,m,J,K,Y⟩:=R.o.prf;obtain⟨⟨n,u,B,C,D,E⟩,⟨Z,f1,f2,f3,f4,f5⟩,c⟩:=ff R.o.r;obtain⟨⟨z0,O,Q,z3,z4,z5⟩,⟨y0,y1,y2,y3,y4,y5⟩,b⟩:=ff R.o.z;simp only at n u B C D E;simp only at G I m J K;cases hw:(sW==0)
    ·rw[hw,TJ rfl]at af;have HX:Xr (V=⟨l,2,sW,(bN P j).Yi,(bN P j).Yj,(bN P j).Yk⟩):=af.o.symm;obtain⟨gP,az,aS,-,-,-,q3,q4,q5⟩:=dh.step (dh.XR HP.o R.o.Yb) j aT;have HQ:Xr (∀F:World,ae [] w F->gP<F.heap.size/\F.cell? ⟨gP,j*6+3,none⟩=some (string (bN P j).Yi)/\F.cell? ⟨gP,j*6+4,none⟩=some (int i64 (bN P j).Yj)/\F.cell? ⟨gP,j*6+5,none⟩=some (int i64 (bN P j).Yk)):=fun F kx=>by
      obtain⟨g2,m,h2,-,-,-,c3,c4,c5⟩:=dh.step (dh.XR HP.o kx) j aT;rw[az]at m;cases m
      exact⟨h2,c3,c4,c5⟩
     generalize (bN P j).Yi=sf at *;generalize (bN P j).Yj=sl at *;generalize (bN P j).Yk=sc at *;clear aS q3 q4 q5;(go_upto_region 17 with fail);have M:Xr (CB w (w4.setCell ⟨w.heap.size+2,2,none⟩ (int i64 sW)) ⟨P,0,pf,pl,pc⟩ hp ⟨l,2,sW,pf,pl,pc⟩):=R.o.set 2 (int i64 sW) rfl;obtain⟨X4,bp⟩:=bq (w4.setCell ⟨w.heap.size+2,2,none⟩ (int i64 sW));rw[bp.o]at M ⊢;clear G I m J K Y n u B C D E Z f1 f2 f3 f4 f5 c z0 O Q z3 z4 z5 y0 y1 y2 y3 y4 y5 b;obtain⟨G,I,m,J,K,Y⟩:=M.o.prf;obtain⟨⟨n,u,B,C,D,E⟩,⟨Z,f1,f2,f3,f4,f5⟩,c⟩:=ff M.o.r;obtain⟨⟨z0,O,Q,z3,z4,z5⟩,⟨y0,y1,y2,y3,y4,y5⟩,b⟩:=ff M.o.z;simp only at n u B C D E;simp only at G I m J K;obtain⟨aS,q3,q4,q5⟩:=HQ.o X4 M.o.Yb;rw[az]at G;(go_upto_region 18 with fail);have U:Xr (CB w (((X4.setCell ⟨w.heap.size+2,3,none⟩ (string sf)).setCell ⟨w.heap.size+2,4,none⟩ (int i64 sl)).setCell ⟨w.heap.size+2,5,none⟩ (int i64 sc)) ⟨P,0,pf,pl,pc⟩ hp ⟨l,2,sW,sf,sl,sc⟩):=((M.o.set (r':=⟨l,2,sW,sf,pl,pc⟩) 3 (string sf) rfl).set (r':=⟨l,2,sW,sf,sl,pc⟩) 4 (int i64 sl) rfl).set 5 (int i64 sc) rfl;obtain⟨X5,br⟩:=bq (((X4.setCell ⟨w.heap.size+2,3,none⟩ (string sf)).setCell ⟨w.heap.size+2,4,none⟩ (int i64 sl)).setCell ⟨w.heap.size+2,5,none⟩ (int i64 sc));rw[br.o]at U ⊢;clear G I m J K Y n u B C D E Z f1 f2 f3 f4 f5 c z0 O Q z3 z4 z5 y0 y1 y2 y3 y4 y5 b;obtain⟨G,I,m,J,K,Y⟩:=U.o.prf;obtain⟨⟨n,u,B,C,D,E⟩,⟨Z,f1,f2,f3,f4,f5⟩,c⟩:=ff U.o.r;obtain⟨⟨z0,O,Q,z3,z4,z5⟩,⟨y0,y1,y2,y3,y4,y5⟩,b⟩:=ff U.o.z;simp only at n u B C D E;go_wp2;obtain⟨x0,x1,x2,x3,x4,x5⟩:=ph U.o.z (string l) (int i64 2) (int i64 sW) (string sf) (int i64 sl) (int i64 sc);exact TR (v:=agg #[string l,int i64 2,int i64 sW,string sf,int i64 sl,int i64 sc]) (by simp[results,results90,go_sem,x0,x1,x2,x3,x4,x5]) rfl ⟨by rw[HX.o];rfl,(((((U.o.Yb.sr1 (by simp) _).sr1 (by simp) _).sr1 (by simp) _).sr1 (by simp) _).sr1 (by simp) _).sr1 (by simp) _⟩
    ·rw[hw,TH (by simp)]at af;have dz:sW=0:=(by simpa using hw);subst dz;have b5:Xr _:=cL.o rfl;rw[<-ca.o]at af;have cB:Xr (([slice s.ao sE.length s.cap]:List Value)=Gx s):=cg (by unfold Gx;rw[ca.o]);have df:=cc.o.Ym;have cF:Xr ((l4 A).n<=900000000):=by show A.length<=_;rw[av.o];omega
     go_wp2_with (at_builtin;refine cC _ rfl (.tmp 71) (.tmp 73) 218 rfl iL (slice none 0 0) 24 h (l4 A) [slice s.ao sE.length s.cap] underlying218 dp ct cu cx rfl Ug rfl df cF.o (by omega) rfl rfl (by simp[Value.oneCell']) ?_;intro h7 w7 bx a5;rw[cB.o,rK]at bx;have cz:Xr _:=cc.o.X6 a5 bx;have bz:Xr _:=Qo a5 a7.o be.o b5.o b6.o;have bT:Xr _:=OU a5 a7.o be.o b5.o b6.o;clear bx a5);go_roundg (P.length-(j+1))
     ·exact⟨j+1,h7,A++[s],by omega,rfl,by simp[l4,lG],by go_num,by show _=_;rw[TO,av.o];rfl,bz,bT,by rw[c7.o,Uu];exact af,cz⟩
     omega
   ·obtain⟨q,hq⟩:∃q,P.length=q+1:=⟨P.length-1,by omega⟩
    have d1:¬(j:Int)<P.length:=(by omega);have ea:IntKind.i64.wrap ((P.length:Int)-1)=(q:Int):=(by rw[Vd];omega);have af:Xr (tq T S f P l tz (A.map (·.L))=V):=(by have:=HG.o;rw[show P.length-j=0 by omega,nZ]at this;exact this);have ad:Xr (tq T S f P l tz (A.map (·.L))=if(dP P q==0)=false then⟨l,2,11,tz.Yi,tz.Yj,tz.Yk⟩ else if lu (bb T S f) (gO A q).L=false then⟨l,2,12,tz.Yi,tz.Yj,tz.Yk⟩ else⟨l,4,0,⟨#[]⟩,0,0⟩):=cg (by unfold tq;rw[show P.length-1=q by omega,xV A q (by rw[av.o];omega)]);have cp:q<A.length:=(by rw[av.o];omega);have d2:(q:Int)<A.length:=(by omega);have dt:q<P.length:=(by omega);have d9:(0:Int)<=(q:Int):=(by omega);clear hq HG;rw[af.o]at ad;have b2:Xr _:=(uR P hp.ao hp.cap 0 pf pl pc a2 bj.o (q+1) q wr (by omega) dt (dh.XR HP.o a0.o));generalize dP P q=bg at *;have b1:Xr (∀F,ae [] w F->Calls prog 73 #[pointer (some ⟨i,0,none⟩),int i64 (f:Int)] F fun e w'=>∃h',e=returned (slice h'.ao (bb T S f).length h'.cap)/\zD F w' h' (bb T S f)):=fun F kx=>by
     have:=mo i f T ar cT S ap cS F (gy.XR HD.o kx) hn (by omega) (by rw[bV S f hn];exact cH.o);rw[bV S f hn]at this;exact this
    have dg:(bb T S f).length<=T.length:=lT T _;obtain⟨X,c6⟩:=bq (bb T S f);rw[c6.o]at b1 dg ad;(go_upto_region 22 with (go_at_call 133;refine TM b2.o ?_;rintro e w4 ⟨rfl,k4⟩));have b0:Xr _:=b1.o w4 (a0.o.trans k4);(go_upto_region 23 with (go_at_call 73;refine TM b0.o ?_;rintro e w5 ⟨h5,rfl,x5⟩));have k5:=k4.trans x5.Yb;have M:Xr _:=an.o.XR k5;obtain⟨gA,dc,dl,db⟩:=dh.sl ((ax.o.XR k5).Ym.srcG wU) q cp;have cP:Xr _:=(bd.o (gO A q) (ko A q cp)).XR k5;have bk:Xr _:=(El X (gO A q).L h5.ao (gO A q).ao h5.cap (gO A q).cap w5 x5.Ym.srcX cP.o.x (by omega));generalize gO A q=s at *;obtain⟨sm,c8⟩:=bq (lu X s.L);rw[c8.o]at bk ad;rw[dc];clear k4 k5 x5 b0 b2;clear G I m J K Y n u B C D E Z f1 f2 f3 f4 f5 c z0 O Q z3 z4 z5 y0 y1 y2 y3 y4 y5 b;(go_upto_region 24 with (go_at_call 134;refine TM bk.o ?_;rintro e w6 ⟨rfl,k6⟩));have U:Xr _:=M.o.XR k6;clear k6 db dl bk;obtain⟨G,I,m,J,K,Y⟩:=U.o.prf;obtain⟨⟨n,u,B,C,D,E⟩,⟨Z,f1,f2,f3,f4,f5⟩,c⟩:=ff U.o.r;obtain⟨⟨z0,O,Q,z3,z4,z5⟩,⟨y0,y1,y2,y3,y4,y5⟩,b⟩:=ff U.o.z;simp only at n u B C D E;simp only at G I m J K;obtain⟨gT,gs,rfl,rfl,bv,bw,dk,c0,c1,q1,t2,t3,t4⟩:=cb.o w6 U.o.Yb;have d8:(f:Int)<S.length:=(by omega);have eb:(H:Int)<T.length:=(by omega);obtain⟨ts,tr,tf,tl,tc⟩:=tz;simp only at t2 t3 t4 ad;have ai:Xr (CB w (((w6.setCell ⟨w.heap.size+2,3,none⟩ (string tf)).setCell ⟨w.heap.size+2,4,none⟩ (int i64 tl)).setCell ⟨w.heap.size+2,5,none⟩ (int i64 tc)).drew ⟨P,0,pf,pl,pc⟩ hp ⟨l,2,0,tf,tl,tc⟩):=(((U.o.set (r':=⟨l,2,0,tf,pl,pc⟩) 3 (string tf) rfl).set (r':=⟨l,2,0,tf,tl,pc⟩) 4 (int i64 tl) rfl).set (r':=⟨l,2,0,tf,tl,tc⟩) 5 (int i64 tc) rfl).XR kr0.drew;go_region;obtain⟨X7,ch⟩:=bq ((((w6.setCell ⟨w.heap.size+2,3,none⟩ (string tf)).setCell ⟨w.heap.size+2,4,none⟩ (int i64 tl)).setCell ⟨w.heap.size+2,5,none⟩ (int i64 tc)).drew);rw[ch.o]at ai ⊢;clear G I m J K Y n u B C D E Z f1 f2 f3 f4 f5 c z0 O Q z3 z4 z5 y0 y1 y2 y3 y4 y5 b;clear bv bw dk c0 c1 q1 t2 t3 t4 ch;obtain⟨G,I,m,J,K,Y⟩:=ai.o.prf;obtain⟨⟨n,u,B,C,D,E⟩,⟨Z,f1,f2,f3,f4,f5⟩,c⟩:=ff ai.o.r;obtain⟨⟨z0,O,Q,z3,z4,z5⟩,⟨y0,y1,y2,y3,y4,y5⟩,b⟩:=ff ai.o.z;simp only at n u B C D E;simp only at G I m J K;cases ck:(bg==0)
    ·rw[ck,TJ rfl]at ad;have HX:Xr (V=⟨l,2,11,tf,tl,tc⟩):=ad.o;(go_upto_region 27 with fail);have N:Xr (CB w (X7.setCell ⟨w.heap.size+2,2,none⟩ (int i64 11)) ⟨P,0,pf,pl,pc⟩ hp ⟨l,2,11,tf,tl,tc⟩):=ai.o.set 2 (int i64 11) rfl;obtain⟨X8,bs⟩:=bq (X7.setCell ⟨w.heap.size+2,2,none⟩ (int i64 11));rw[bs.o]at N ⊢;clear G I m J K Y n u B C D E Z f1 f2 f3 f4 f5 c z0 O Q z3 z4 z5 y0 y1 y2 y3 y4 y5 b;obtain⟨G,I,m,J,K,Y⟩:=N.o.prf;obtain⟨⟨n,u,B,C,D,E⟩,⟨Z,f1,f2,f3,f4,f5⟩,c⟩:=ff N.o.r;obtain⟨⟨z0,O,Q,z3,z4,z5⟩,⟨y0,y1,y2,y3,y4,y5⟩,b⟩:=ff N.o.z;simp only at n u B C D E;go_wp2;obtain⟨x0,x1,x2,x3,x4,x5⟩:=ph N.o.z (string l) (int i64 2) (int i64 11) (string tf) (int i64 tl) (int i64 tc);exact TR (v:=agg #[string l,int i64 2,int i64 11,string tf,int i64 tl,int i64 tc]) (by simp[results,results90,go_sem,x0,x1,x2,x3,x4,x5]) rfl ⟨by rw[HX.o];rfl,(((((N.o.Yb.sr1 (by simp) _).sr1 (by simp) _).sr1 (by simp) _).sr1 (by simp) _).sr1 (by simp) _).sr1 (by simp) _⟩
    ·rw[ck,TH (by simp)]at ad;cases sm
     ·rw[TJ rfl]at ad;have HX:Xr (V=⟨l,2,12,tf,tl,tc⟩):=ad.o;(go_upto_region 30 with fail);have N:Xr (CB w (X7.setCell ⟨w.heap.size+2,2,none⟩ (int i64 12)) ⟨P,0,pf,pl,pc⟩ hp ⟨l,2,12,tf,tl,tc⟩):=ai.o.set 2 (int i64 12) rfl;obtain⟨X8,bs⟩:=bq (X7.setCell ⟨w.heap.size+2,2,none⟩ (int i64 12));rw[bs.o]at N ⊢;clear G I m J K Y n u B C D E Z f1 f2 f3 f4 f5 c z0 O Q z3 z4 z5 y0 y1 y2 y3 y4 y5 b;obtain⟨G,I,m,J,K,Y⟩:=N.o.prf;obtain⟨⟨n,u,B,C,D,E⟩,⟨Z,f1,f2,f3,f4,f5⟩,c⟩:=ff N.o.r;obtain⟨⟨z0,O,Q,z3,z4,z5⟩,⟨y0,y1,y2,y3,y4,y5⟩,b⟩:=ff N.o.z;simp only at n u B C D E;go_wp2;obtain⟨x0,x1,x2,x3,x4,x5⟩:=ph N.o.z (string l) (int i64 2) (int i64 12) (string tf) (int i64 tl) (int i64 tc);exact TR (v:=agg #[string l,int i64 2,int i64 12,string tf,int i64 tl,int i64 tc]) (by simp[results,results90,go_sem,x0,x1,x2,x3,x4,x5]) rfl ⟨by rw[HX.o];rfl,(((((N.o.Yb.sr1 (by simp) _).sr1 (by simp) _).sr1 (by simp) _).sr1 (by simp) _).sr1 (by simp) _).sr1 (by simp) _⟩
     ·rw[TH (by simp)]at ad;have HX:Xr (V=⟨l,4,0,⟨#[]⟩,0,0⟩):=ad.o;go_wp2;obtain⟨x0,x1,x2,x3,x4,x5⟩:=ph ai.o.z (string l) (int i64 4) (int i64 0) (string ⟨#[]⟩) (int i64 0) (int i64 0);exact TR (v:=agg #[string l,int i64 4,int i64 0,string ⟨#[]⟩,int i64 0,int i64 0]) (by simp[results,results90,go_sem,x0,x1,x2,x3,x4,x5]) rfl ⟨by rw[HX.o];rfl,(((((ai.o.Yb.sr1 (by simp) _).sr1 (by simp) _).sr1 (by simp) _).sr1 (by simp) _).sr1 (by simp) _).sr1 (by simp) _⟩
  ·rw[hh,TJ (by omega),UF]at ac;rw[hh];have d6:(0:Int)<=(k:Int):=by omega
   have d7:(k:Int)<P.length:=(by omega);have HX:Xr (V=⟨l,3,0,(bN P k).Yi,(bN P k).Yj,(bN P k).Yk⟩):=ac.o;obtain⟨gP,az,aS,-,-,-,q3,q4,q5⟩:=dh.step (dh.XR HP.o al.o.Yb) k hk;have HQ:Xr (∀F:World,ae [] w F->gP<F.heap.size/\F.cell? ⟨gP,k*6+3,none⟩=some (string (bN P k).Yi)/\F.cell? ⟨gP,k*6+4,none⟩=some (int i64 (bN P k).Yj)/\F.cell? ⟨gP,k*6+5,none⟩=some (int i64 (bN P k).Yk)):=fun F kx=>by
    obtain⟨g2,m,h2,-,-,-,c3,c4,c5⟩:=dh.step (dh.XR HP.o kx) k hk;rw[az]at m;cases m
    exact⟨h2,c3,c4,c5⟩
   generalize (bN P k).Yi=sf at *;generalize (bN P k).Yj=sl at *;generalize (bN P k).Yk=sc at *;clear aS q3 q4 q5;(go_upto_region 8 with fail);have R:Xr (CB w (w3.setCell ⟨w.heap.size+2,1,none⟩ (int i64 3)) ⟨P,0,pf,pl,pc⟩ hp ⟨l,3,0,pf,pl,pc⟩):=al.o.set 1 (int i64 3) rfl;obtain⟨X4,bp⟩:=bq (w3.setCell ⟨w.heap.size+2,1,none⟩ (int i64 3));rw[bp.o]at R ⊢;clear G I m J K Y n u B C D E Z f1 f2 f3 f4 f5 c z0 O Q z3 z4 z5 y0 y1 y2 y3 y4 y5 b;obtain⟨G,I,m,J,K,Y⟩:=R.o.prf;obtain⟨⟨n,u,B,C,D,E⟩,⟨Z,f1,f2,f3,f4,f5⟩,c⟩:=ff R.o.r;obtain⟨⟨z0,O,Q,z3,z4,z5⟩,⟨y0,y1,y2,y3,y4,y5⟩,b⟩:=ff R.o.z;simp only at n u B C D E;simp only at G I m J K;obtain⟨aS,q3,q4,q5⟩:=HQ.o X4 R.o.Yb;rw[az]at G;(go_upto_region 9 with fail);have M:Xr (CB w (((X4.setCell ⟨w.heap.size+2,3,none⟩ (string sf)).setCell ⟨w.heap.size+2,4,none⟩ (int i64 sl)).setCell ⟨w.heap.size+2,5,none⟩ (int i64 sc)) ⟨P,0,pf,pl,pc⟩ hp ⟨l,3,0,sf,sl,sc⟩):=((R.o.set (r':=⟨l,3,0,sf,pl,pc⟩) 3 (string sf) rfl).set (r':=⟨l,3,0,sf,sl,pc⟩) 4 (int i64 sl) rfl).set 5 (int i64 sc) rfl;obtain⟨X5,br⟩:=bq (((X4.setCell ⟨w.heap.size+2,3,none⟩ (string sf)).setCell ⟨w.heap.size+2,4,none⟩ (int i64 sl)).setCell ⟨w.heap.size+2,5,none⟩ (int i64 sc));rw[br.o]at M ⊢;clear G I m J K Y n u B C D E Z f1 f2 f3 f4 f5 c z0 O Q z3 z4 z5 y0 y1 y2 y3 y4 y5 b;obtain⟨G,I,m,J,K,Y⟩:=M.o.prf;obtain⟨⟨n,u,B,C,D,E⟩,⟨Z,f1,f2,f3,f4,f5⟩,c⟩:=ff M.o.r;obtain⟨⟨z0,O,Q,z3,z4,z5⟩,⟨y0,y1,y2,y3,y4,y5⟩,b⟩:=ff M.o.z;simp only at n u B C D E;go_wp2;obtain⟨x0,x1,x2,x3,x4,x5⟩:=ph M.o.z (string l) (int i64 3) (int i64 0) (string sf) (int i64 sl) (int i64 sc);exact TR (v:=agg #[string l,int i64 3,int i64 0,string sf,int i64 sl,int i64 sc]) (by simp[results,results90,go_sem,x0,x1,x2,x3,x4,x5]) rfl ⟨by rw[HX.o];rfl,(((((M.o.Yb.sr1 (by simp) _).sr1 (by simp) _).sr1 (by simp) _).sr1 (by simp) _).sr1 (by simp) _).sr1 (by simp) _⟩
structure gC(w:World)(v:Nat)(fs:Fs)(h:Hd)(on:Bool)(p2 p3 p4:Value):Prop where
 d:w.heap[v]?=some (.cells #[slice h.ao fs.length h.cap,bool on,p2,p3,p4] 85)
 Ym:aB w h (cW fs)
 far:h.Yc≠some v
 le:fs.length<=4
theorem gC.XR(a:gC w b T l o x y k)(c:ae [] w n):gC n b T l o x y k :=
 ⟨c.get a.d (by simp),a.Ym.XR c,a.far,a.le⟩
theorem gC.keptS{S:Xv}(a:gC w b T l o x y k)(e:ae S w n)(g:b∉S)(f:∀q,l.Yc=some q->q∉S):gC n b T l o x y k :=
 ⟨e.get a.d g,a.Ym.XX (fun q c=>e.block q (a.Ym.lt c) (f q c)),a.far,a.le⟩
theorem aB.putAt{r:eQ}(o:aB w l r)(d:l.ao=some ⟨b,0,none⟩)(j:Nat)(v:Value):aB (w.setCell ⟨b,j,none⟩ v) l ⟨r.e,r.size,r.n,r.xs.set j v⟩:=by
 refine⟨by rw[Uz];exact o.1,?_⟩;rcases o.2 with ⟨g,y⟩ | ⟨x,f,a,g,s,t,k,m,p,q⟩
 ·injection g with c
  rw[c]at d;cases d
 ·injection g with c u i
  rw[c]at d;cases d
  refine TU ⟨b,f,a.setIfInBounds j v,by rw[c,i],s,by rw[ab t],k,m,by rw[Array.size_setIfInBounds];exact p,?_⟩;rw[Wq]
  show(a.toList.set j v).take (r.n*r.size)=r.xs.set j v
  rw[<-q,Xy]
theorem aB.srcFi(o:aB w l (cW T)):oc w l.ao l.cap T:=by
 refine⟨?_,fun k m=>?_⟩
 ·rcases o.X9 with ⟨e,b,_⟩ | ⟨g,c,n,p,d,-⟩
  ·have b:T.length=0:=b;omega
  ·exact d
 ·obtain⟨g,a,j,-⟩:=rE o (show 0<T.length by omega);obtain⟨f,i⟩:=xB T k m;exact⟨g,a,j,o.cell a (k*2) _ f,o.cell a (k*2+1) _ i⟩
set_option maxRecDepth 512
theorem Ko(w:World) :
  Calls prog 29 #[] w fun e a=>e=returned (pointer (some ⟨w.heap.size,0,none⟩))/\gC a w.heap.size [] ⟨none,0⟩ false (pointer none) (slice none 0 0) (slice none 0 0)/\ae [] w a:=by
 have b:Xr (gC (w.alloc (.cells #[slice none 0 0,bool false,pointer none,slice none 0 0,slice none 0 0] 85)) w.heap.size [] ⟨none,0⟩ false (pointer none) (slice none 0 0) (slice none 0 0)):=⟨TN _ _,TQ _ _ _ _,(by intro e;cases e),by simp⟩;go_enter func29,ntmps29;go_wp2;go_ret;exact⟨rfl,b.o,kr0.alloc _⟩
def Sf(w:World)(v:Nat)(fs:Fs)(h:Hd)(n d:Xs)(p2 p3 p4:Value)(e:Ending)(w':World):Prop :=
 e=returned (int i64 (fI fs n d).1)/\((fI fs n d).1=0->∃h',gC w' v (fI fs n d).2 h' false p2 p3 p4/\zb w w' v h h')/\((fI fs n d).1≠0->ae [] w w')
theorem gC.off(a:gC w b T l o x y k):gC (w.setCell ⟨b,1,none⟩ (bool false)) b T l false x y k:=by
 have f:ae [b] w (w.setCell ⟨b,1,none⟩ (bool false)):=(ae.refl _ _).sl1 _;exact⟨by rw[ab a.d];rfl,a.Ym.XX (fun q c=>f.block q (a.Ym.lt c) (by simp;intro e;exact a.far (by rw[<-e];exact c))),a.far,a.le⟩
theorem zb.set(r:zb w n b l d)(i:Nat)(u:Value):zb w (n.setCell ⟨b,i,none⟩ u) b l d:=⟨r.Yb.sl1 _,r.Yc⟩
theorem gC.grown{c:Fs}(a:gC w b T l o x y k)(g:bt w n l d)(j:aB n d (cW c))(r:c.length<=4){m:Nat}(s:m=c.length):gC (n.setCell ⟨b,0,none⟩ (slice d.ao m d.cap)) b c d o x y k:=by
 have p:=g.Yb.get a.d (fun i=>a.far (aQ i));have v:=aj a.d;have f:d.Yc≠some b:=by
  rcases g.Yc with e | ⟨q,e,i⟩
  ·rw[e];exact a.far
  ·rw[e];intro u;cases u;omega
 have t:ae [b] n (n.setCell ⟨b,0,none⟩ (slice d.ao m d.cap)):=(ae.refl _ _).sl1 _;subst s;exact⟨by rw[ab p];rfl,j.XX (fun q i=>t.block q (j.lt i) (by simp;intro e;exact f (by rw[<-e];exact i))),f,r⟩
theorem gC.wrote(a:gC w b T l o x y k)(c:l.ao=some ⟨D,0,none⟩)(g:v<T.length)(n d:Xs):gC ((w.setCell ⟨D,v*2,none⟩ (string n)).setCell ⟨D,v*2+1,none⟩ (string d)).drew b (T.set v (n,d)) l o x y k:=by
 have f:l.Yc=some D:=by unfold Hd.Yc;rw[c];rfl
 have i:ae [D] w ((w.setCell ⟨D,v*2,none⟩ (string n)).setCell ⟨D,v*2+1,none⟩ (string d)).drew:=(((ae.refl _ _).sl1 _).sl1 _).drew;have j:aB ((w.setCell ⟨D,v*2,none⟩ (string n)).setCell ⟨D,v*2+1,none⟩ (string d)) l (cW (T.set v (n,d))):=by
  have:=(a.Ym.putAt c (v*2) (string n)).putAt c (v*2+1) (string d);have e:(⟨(cW T).e,(cW T).size,(cW T).n,((cW T).xs.set (v*2) (string n)).set (v*2+1) (string d)⟩:eQ)=cW (T.set v (n,d)):=by
   simp only[cW,List.length_set];rw[Is T v n d g]
  rw[e]at this;exact this
 refine⟨?_,j.XR kr0.drew,a.far,by rw[Uz];exact a.le⟩;rw[Uz];exact i.get a.d (by simp;intro e;exact a.far (by rw[f,e]))
set_option maxRecDepth 100000
theorem KE(b:Fs)(h:Hd)(R:Bool)(p2 p3 p4:Value)(n d:Xs)(w:World)(U:gC w H b h R p2 p3 p4)(hn:n.size<=1073741824)(hd:d.size<=4294967296) :
  Calls prog 16 #[pointer (some ⟨H,0,none⟩),string n,string d] w fun e w'=>Sf w H b h n d p2 p3 p4 e w':=by
 have F:Xr (Calls prog 35 #[string n,string d] w fun e w'=>e=returned (int i64 (dn n d))/\w'=w):=Dc n d w hn hd;cases J:(dn n d==0)
 ·have r:Xr (fI b n d=(dn n d,b)):=by show _=_;unfold fI;rw[TJ (by simpa using J)]
  generalize dn n d=c at *;go_enter func16,ntmps16;go_wp2_with (go_at_call 35;refine TM F.o ?_;rintro e E ⟨rfl,a⟩;rw[a];clear a);go_ret;exact⟨by rw[r.o];rfl,by rw[r.o];exact⟨(fun q=>by rw[show c=0 from q]at J;cases J),fun _=>ae.refl _ _⟩⟩
 ·have l:dn n d=0:=by simpa using J
  rw[l]at F;obtain⟨W,G⟩:=bq (w.alloc (.cells #[string n,string d] 68));have kW:=fH G.o;have BW:=f9 G.o;have s:=U.XR kW;have f:Xr _:=s;have O:W.cell? ⟨H,0,none⟩=some (slice h.ao b.length h.cap):=by rw[ah s.d];rfl
  have z0:=aj s.d;obtain⟨b0,b1⟩:=Ba BW;have z:Xr _:=kW;have V:=U.le;have i:Xr _:=(nu b h.ao h.cap n W (by omega) s.Ym.srcFi);clear s U kW BW J;obtain⟨m,B⟩:=bq (b.length);rw[B.o]at O i V;rcases qD n b with x | ⟨k,L,x⟩
  ·rw[x]at i;by_cases hl:m=4
   ·have r:Xr (fI b n d=(1,b)):=(by show _=_;unfold fI;rw[TH (by simpa using l),x,TH (by omega),TJ (by rw[B.o];omega)]);subst hl;clear x l;go_enter func16,ntmps16;(go_upto_region 5 with (go_at_call 35;refine TM F.o ?_;rintro e E ⟨rfl,a⟩;rw[a];clear a));rw[G.o];go_wp2_with (go_at_call 36;refine TM i.o ?_;rintro e E ⟨rfl,a⟩;rw[a];clear a);go_ret;exact⟨by rw[r.o];rfl,by rw[r.o];exact⟨(fun q=>by cases q),fun _=>z.o⟩⟩
   ·have r:Xr (fI b n d=(0,b++[(n,d)])):=(by show _=_;unfold fI;rw[TH (by simpa using l),x,TH (by omega),TH (by rw[B.o];omega)]);have an:((m:Int)==4)=false:=(by simp;omega);have A:Xr ((cW b).n=m):=B.o;clear x l;obtain⟨i0,hi,Y,Z,ac⟩:=Ul Bp;have hD:Xr (gC (W.alloc (.cells #[string n,string d] 68)).drew H b h R p2 p3 p4):=f.o.XR ((ae.refl [] W).alloc _).drew;have s2:Xr (∀j u,([string n,string d]:List Value)[j]?=some u->(W.alloc (.cells #[string n,string d] 68)).drew.cell? ((⟨W.heap.size,0,none⟩:Addr).add j)=some u):=by
     intro j u hj;rw[bX];have L:(W.alloc (.cells #[string n,string d] 68)).drew.heap[W.heap.size]?=some (.cells #[string n,string d] 68):=TN _ _;rw[ah L];simpa using hj
    have s3:Xr (∀u∈([string n,string d]:List Value),u.oneCell'=true):=by intro u hu;simp only[List.mem_cons,List.not_mem_nil,or_false]at hu;rcases hu with rfl | rfl <;> rfl
    have s4:Xr ((cW b).n+1<=maxLen):=(by show _<=_;rw[A.o];unfold maxLen;omega);have s5:Xr (((cW b).n+1)*32<=140737488355328):=(by show _<=_;rw[A.o];omega);go_enter func16,ntmps16;(go_upto_region 5 with (go_at_call 35;refine TM F.o ?_;rintro e E ⟨rfl,a⟩;rw[a];clear a));rw[G.o];(go_upto_region 9 with (go_at_call 36;refine TM i.o ?_;rintro e E ⟨rfl,a⟩;rw[a];clear a));go_region_law (refine da rfl (.tmp 41) (.tmp 43) 33 rfl i0 (agg #[string ⟨#[]⟩,string ⟨#[]⟩]) 32 h (cW b) underlying33 hi Y Z ac rfl (show 0<2 by omega) (by rw[A.o];simp[Act.eval]) hD.o.Ym ⟨W.heap.size,0,none⟩ 1 1 [string n,string d] (by simp[Act.eval]) rfl s2.o s3.o Ug s4.o s5.o ?_;intro Q p S M y K;have T:=(show Xr (bt W S h ⟨some ⟨Q,0,none⟩,p⟩) from(bt.XR ((ae.refl [] W).alloc _).drew).trans (bt.made y (by simpa using K)));have P:=T.o.Yb.get f.o.d (fun hq=>f.o.far (aQ hq));have e5:=am P 0;have e6:S.cell? ⟨H,0,none⟩=some (slice h.ao m h.cap):=(by rw[ah P,<-B.o];rfl);have z5:=aj P)
    all_goals
     have N:aB S ⟨some ⟨Q,0,none⟩,p⟩ (cW (b++[(n,d)])):=(by rw[<-yx];exact M);have t:Xr _:=(f.o.grown (m:=(cW b).n+1) T.o N (by simp;rw[B.o];omega) (by simp[cW]));obtain⟨X,D⟩:=bq (S.setCell ⟨H,0,none⟩ (slice (some ⟨Q,0,none⟩) ((cW b).n+1) p));have v:=(show Xr (zb w X H h ⟨some ⟨Q,0,none⟩,p⟩) by rw[<-D.o];exact((zb.of (bt.XR z.o)).trans (zb.of T.o)).set 0 _);rw[D.o]at t ⊢;have x1:=am t.o.d 1;have x2:X.cell? ⟨H,1,none⟩=some (bool R):=(by rw[ah t.o.d];rfl);clear M y K P e5 e6 z5 N O D;go_wp2;go_ret;exact⟨by rw[r.o];rfl,by rw[r.o];exact⟨fun _=>⟨_,t.o.off,v.o.set 1 _⟩,fun q=>absurd rfl q⟩⟩
  ·have r:Xr (fI b n d=(0,b.set k (n,d))):=(by show _=_;unfold fI;rw[TH (by simpa using l),x,TJ (by omega),UF]);rw[x]at i;obtain⟨g,C,af,ag⟩:=rE f.o.Ym (show 0<b.length by omega);obtain⟨g',I,-,q0,q1⟩:=f.o.Ym.srcFi.2 k L;rw[C]at I;cases I
   have t:Xr _:=f.o.wrote C L n d;have al:(k:Int)<(m:Int):=(by rw[B.o]at L;omega);have ai:(0:Int)<=(k:Int):=(by omega);have u0:W.frozen? ⟨g,k*2,none⟩=false/\W.frozen? ⟨g,k*2+1,none⟩=false:=by
    rcases f.o.Ym.X9 with ⟨e,-,-⟩ | ⟨g2,ad,e1,I,-⟩
    ·rw[e]at C;cases C
    ·rw[C]at e1;cases e1;exact⟨am I _,am I _⟩
   obtain⟨u0,u1⟩:=u0;have v:Xr (zb w ((W.setCell ⟨g,k*2,none⟩ (string n)).setCell ⟨g,k*2+1,none⟩ (string d)).drew H h h):=by
    have hb:h.Yc=some g:=(by unfold Hd.Yc;rw[C];rfl);have:=z.o.mono (S':=H :: h.Yc.toList) (by simp);exact⟨((this.setCell (TZ (by rw[hb];simp)) _).setCell (TZ (by rw[hb];simp)) _).drew,TZ rfl⟩
   rw[C]at O i;clear x l;go_enter func16,ntmps16;(go_upto_region 5 with (go_at_call 35;refine TM F.o ?_;rintro e E ⟨rfl,a⟩;rw[a];clear a));rw[G.o];(go_upto_region 10 with (go_at_call 36;refine TM i.o ?_;rintro e E ⟨rfl,a⟩;rw[a];clear a));go_region;obtain⟨X,D⟩:=bq (((W.setCell ⟨g,k*2,none⟩ (string n)).setCell ⟨g,k*2+1,none⟩ (string d)).drew);rw[D.o]at t v ⊢;have x1:=am t.o.d 1;have x2:X.cell? ⟨H,1,none⟩=some (bool R):=(by rw[ah t.o.d];rfl);clear O D q0 q1 u0 u1;go_wp2;go_ret;exact⟨by rw[r.o];rfl,by rw[r.o];exact⟨fun _=>⟨_,t.o.off,v.o.set 1 _⟩,fun q=>absurd rfl q⟩⟩
def OL(x:jP×Hd):List Value:=[slice x.2.ao x.1.st.length x.2.cap,int i64 x.1.why,string x.1.Yi,int i64 x.1.Yj,int i64 x.1.Yk]
theorem PV(x:jP×Hd):(OL x).length=5:=rfl
def gN(L:List (jP×Hd)):eQ:=lG 122 5 OL L
def gG(L:List il):eQ:=lG 38 6 kJ L
structure OK(w:World)(v b:Nat)(x0 x1:Value)(PS:List (jP×Hd))(aoP:Xu)(cP:Nat)(RS:List il)(aoR:Xu)(cR:Nat):Prop where
 d:w.heap[v]?=some (.cells #[x0,x1,pointer (some ⟨b,0,none⟩),slice aoP PS.length cP,slice aoR RS.length cR] 85)
 p:dh w aoP 5 OL PS
 q:∀x∈PS,dh w x.2.ao 6 lI x.1.st
 r:dh w aoR 6 kJ RS
theorem OK.XR{f:List (jP×Hd)}{c:Xu}{g:List il}{e:Xu}{i:Nat}(a:OK w b D x y f c v g e i)(k:ae [] w n):OK n b D x y f c v g e i :=
 ⟨k.get a.d (by simp),a.p.XR k,fun l j=>(a.q l j).XR k,a.r.XR k⟩
def dV(RS:List il)(a:Nat):il:=RS.getD a Ql
theorem wT(b:List il)(a:Nat)(h:a<b.length):b[a]?=some (dV b a):=by
 unfold dV;rw[TG,TF h];rfl
def cM(RS:List il)(a:Nat):Bool:=((dV RS a).XS==4)||((dV RS a).XS==5)
theorem Au(z A:Value)(t:List (jP×Hd))(k:Xu)(u:Nat)(a:List il)(l:Xu)(p:Nat)(w:World)(n:OK w i f z A t k u a l p)(v:H<a.length) :
  Calls prog 67 #[pointer (some ⟨i,0,none⟩),int i64 H] w fun e y=>e=returned (bool (cM a H))/\y=w:=by
 obtain⟨g,rfl,D,c⟩:=n.r H _ (wT a H v);have B:w.cell? ⟨g,H*6+1,none⟩=some (int i64 (dV a H).XS):=c 1 _ rfl;have C:w.cell? ⟨i,4,none⟩=some (slice (some ⟨g,0,none⟩) a.length p):=by rw[ah n.d];rfl
 have x:(H:Int)<a.length:=by omega
 have j:Xr (cM a H=(((dV a H).XS==4)||((dV a H).XS==5))):=rfl;generalize (dV a H).XS=s at *;clear n c;cases m:(s==4)
 ·cases q:(s==5)
  ·have b:Xr (cM a H=false):=(by show _=_;rw[j.o,m,q];rfl);go_enter func67,ntmps67;go_wp2;go_ret;exact⟨aF b.o.symm,rfl⟩
  ·have b:Xr (cM a H=true):=(by show _=_;rw[j.o,m,q];rfl);go_enter func67,ntmps67;go_wp2;go_ret;exact⟨aF b.o.symm,rfl⟩
 ·have b:Xr (cM a H=true):=by show _=_;rw[j.o,m];rfl
  go_enter func67,ntmps67;go_wp2;go_ret;exact⟨aF b.o.symm,rfl⟩
end Go.Proofs.YtnbhnocdhbcbcaaGreat

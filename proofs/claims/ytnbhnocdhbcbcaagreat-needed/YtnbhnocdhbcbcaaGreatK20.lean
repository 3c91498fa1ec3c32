import Derived.Deep.RegionLaw
import Derived.Test.YtnbhnocdhbcbcaaGreatK19
namespace Go.Proofs.YtnbhnocdhbcbcaaGreat
open Go.RowKit Tryz
open Value IntKind Ending
set_option maxHeartbeats 0
variable{w n:World}{b D v:Nat}{x y k:Value}{L:jO}{l d:Hd}{S:Sl}{I:List Sl}{T:Fs}{o:Bool}(i f H:Nat)
structure ip where
 XU:Xs
 XE:Int
 why:Int
 XY:Xs
 XZ:Int
 X0:Int
def ld(r:ip):List Value:=[string r.XU,int i64 r.XE,int i64 r.why,string r.XY,int i64 r.XZ,int i64 r.X0]
theorem yF(r:ip):(ld r).length=6:=rfl
def tp(T:List Tk)(S:List Sm)(a:Nat)(P:List di)(l:Xs)(t:Tk)(M:List Xt):ip :=
 if(dP P (P.length-1)==0)=false then⟨l,2,11,t.XY,t.XZ,t.X0⟩
 else if lr (bb T S a) (M.getD (P.length-1) [])=false then⟨l,2,12,t.XY,t.XZ,t.X0⟩ else⟨l,4,0,⟨#[]⟩,0,0⟩
def nY(T:List Tk)(S:List Sm)(a:Nat)(P:List di)(l:Xs)(t:Tk):Nat->Nat->List Xt->ip
 | 0,_,M=>tp T S a P l t M
 | n+1,i,M=>if((iC T S a P i M).2==0)=false then⟨l,2,(iC T S a P i M).2,(bN P i).XY,(bN P i).XZ,(bN P i).X0⟩ else nY T S a P l t n (i+1) (M++[(iC T S a P i M).1])
def lz(T:List Tk)(S:List Sm)(a:Nat)(p:jO)(t:Tk):ip :=
 if(p.why==0)=false then⟨bR T (aq S a),2,p.why,p.XY,p.XZ,p.X0⟩
 else if 0<=ie p.st then⟨bR T (aq S a),3,p.why,(bN p.st (ie p.st).toNat).XY,(bN p.st (ie p.st).toNat).XZ,(bN p.st (ie p.st).toNat).X0⟩
 else nY T S a p.st (bR T (aq S a)) t p.st.length 0 []
theorem pg{o p q:Value}(h:w.heap[b]?=some (.cells #[x,y,k,o,p,q] 38))(a c d e f g:Value) :
  (w.setCell ⟨b,0,none⟩ a).cell? ⟨b,0,none⟩=some a/\((w.setCell ⟨b,0,none⟩ a).setCell ⟨b,1,none⟩ c).cell? ⟨b,1,none⟩=some c/\(((w.setCell ⟨b,0,none⟩ a).setCell ⟨b,1,none⟩ c).setCell ⟨b,2,none⟩ d).cell? ⟨b,2,none⟩=some d/\((((w.setCell ⟨b,0,none⟩ a).setCell ⟨b,1,none⟩ c).setCell ⟨b,2,none⟩ d).setCell ⟨b,3,none⟩ e).cell? ⟨b,3,none⟩=some e /\
  (((((w.setCell ⟨b,0,none⟩ a).setCell ⟨b,1,none⟩ c).setCell ⟨b,2,none⟩ d).setCell ⟨b,3,none⟩ e).setCell ⟨b,4,none⟩ f).cell? ⟨b,4,none⟩=some f/\((((((w.setCell ⟨b,0,none⟩ a).setCell ⟨b,1,none⟩ c).setCell ⟨b,2,none⟩ d).setCell ⟨b,3,none⟩ e).setCell ⟨b,4,none⟩ f).setCell ⟨b,5,none⟩ g).cell? ⟨b,5,none⟩=some g:=by
 have i:=ab h 0 a;have j:=ab i 1 c;have l:=ab j 2 d;have m:=ab l 3 e;have n:=ab m 4 f;have r:=ab n 5 g;exact⟨by rw[ah i];rfl,by rw[ah j];rfl,by rw[ah l];rfl,by rw[ah m];rfl,by rw[ah n];rfl,by rw[ah r];rfl⟩
theorem ff{r:ip}(h:w.heap[b]?=some (.cells (ld r).toArray 38)) :
  (w.cell? ⟨b,0,none⟩=some (string r.XU)/\w.cell? ⟨b,1,none⟩=some (int i64 r.XE)/\w.cell? ⟨b,2,none⟩=some (int i64 r.why)/\w.cell? ⟨b,3,none⟩=some (string r.XY)/\w.cell? ⟨b,4,none⟩=some (int i64 r.XZ)/\w.cell? ⟨b,5,none⟩=some (int i64 r.X0)) /\
  (w.frozen? ⟨b,0,none⟩=false/\w.frozen? ⟨b,1,none⟩=false/\w.frozen? ⟨b,2,none⟩=false/\w.frozen? ⟨b,3,none⟩=false/\w.frozen? ⟨b,4,none⟩=false/\w.frozen? ⟨b,5,none⟩=false)/\b<w.heap.size:=by
 refine⟨⟨?_,?_,?_,?_,?_,?_⟩,⟨am h 0,am h 1,am h 2,am h 3,am h 4,am h 5⟩,aj h⟩
 all_goals (rw[ah h];rfl)
def Qh:ip:=⟨⟨#[]⟩,0,0,⟨#[]⟩,0,0⟩
def LY(w:World)(r:ip)(e:Ending)(w':World):Prop:=e=returned (agg (ld r).toArray)/\ae [] w w'
structure LW(T:List Tk)(S:List Sm)(a:Nat)(p:jO):Prop where
 le:p.st.length<=100000000
 nd:OL p.st
 st:p.why=0->0<p.st.length/\∀i,i<p.st.length->(bN p.st i).ref≠-1->L8 T S a p.st i
structure Cz(w wr:World)(p:jO)(hp:Hd)(r:ip):Prop where
 e:wr.heap[w.heap.size]?=some (.cells #[slice hp.ao p.st.length hp.cap,int i64 p.why,string p.XY,int i64 p.XZ,int i64 p.X0] 122)
 z:wr.heap[w.heap.size+1]?=some (.cells (ld Qh).toArray 38)
 r:wr.heap[w.heap.size+2]?=some (.cells (ld r).toArray 38)
 XQ:ae [] w wr
theorem Cz.XD{b:World}{r:ip}(a:Cz w n L l r)(k:ae [] n b):Cz w b L l r:=⟨k.get a.e (by simp),k.get a.z (by simp),k.get a.r (by simp),a.XQ.trans k⟩
theorem Cz.set{r r':ip}(a:Cz w n L l r)(i:Nat)(v:Value)(h:(ld r).set i v=ld r'):Cz w (n.setCell ⟨w.heap.size+2,i,none⟩ v) L l r':=by
 have k:ae [w.heap.size+2] n (n.setCell ⟨w.heap.size+2,i,none⟩ v):=(ae.refl _ _).sl1 _;refine⟨k.get a.e (by simp),k.get a.z (by simp),?_,a.XQ.sr1 (by simp) _⟩;rw[ab a.r,<-h];simp
theorem Cz.prf{r:ip}(a:Cz w n L l r):n.cell? ⟨w.heap.size,0,none⟩=some (slice l.ao L.st.length l.cap)/\n.cell? ⟨w.heap.size,1,none⟩=some (int i64 L.why)/\n.cell? ⟨w.heap.size,2,none⟩=some (string L.XY)/\n.cell? ⟨w.heap.size,3,none⟩=some (int i64 L.XZ)/\n.cell? ⟨w.heap.size,4,none⟩=some (int i64 L.X0)/\w.heap.size<n.heap.size :=
 ⟨by rw[ah a.e];rfl,by rw[ah a.e];rfl,by rw[ah a.e];rfl,by rw[ah a.e];rfl,by rw[ah a.e];rfl,aj a.e⟩
theorem Si(h:pv w S):∃q o,S.ao=some ⟨q,o,none⟩/\q<w.heap.size:=by
 obtain⟨g,e,a,-⟩:=h.x 0 _ (nh S.L 0 h.pos);exact⟨g,0,e,a⟩
theorem N5(g:bq w n l d)(a:pv w S)(j:∀q o,S.ao=some ⟨q,o,none⟩->l.XR≠some q):pv n S:=by
 refine⟨⟨fun k x f=>?_,a.ok.nil,a.ok.le⟩,fun k x f=>?_,a.pos,a.le⟩
 ·obtain⟨q,o,e,b,c⟩:=a.ok.src k x f;exact⟨q,o,e,Tv b g.XQ.size,by rw[TN (g.XQ.block q b (fun i=>j q o e (aQ i)))];exact c⟩
 ·obtain⟨q,e,b,c⟩:=a.x k x f;exact⟨q,e,Tv b g.XQ.size,by rw[TN (g.XQ.block q b (fun i=>j q 0 e (aQ i)))];exact c⟩
theorem Qk(g:bq w n l d)(a:∀S∈I,pv w S)(e:∀S∈I,∀q o,S.ao=some ⟨q,o,none⟩->l.XR≠some q)(b:pv w S)(m:∀q o,S.ao=some ⟨q,o,none⟩->l.XR≠some q):∀t∈I++[S],pv n t:=fun t c=>by
 rcases Uf.1 c with c | c
 ·exact N5 g (a t c) (e t c)
 ·rw[TH.1 c];exact N5 g b m
theorem OQ(g:bq w n l d)(a:∀S∈I,pv w S)(r:∀S∈I,∀q o,S.ao=some ⟨q,o,none⟩->l.XR≠some q)(b:pv w S)(m:∀q o,S.ao=some ⟨q,o,none⟩->l.XR≠some q):∀t∈I++[S],∀q o,t.ao=some ⟨q,o,none⟩->d.XR≠some q:=fun t c q o e j=>by
 have f:pv w t/\l.XR≠some q:=by
  rcases Uf.1 c with c | c
  ·exact⟨a t c,r t c q o e⟩
  ·rw[TH.1 c]at e ⊢;exact⟨b,m q o e⟩
 rcases g.XR with i | ⟨v,i,p⟩
 ·exact f.2 (by rw[<-i];exact j)
 ·rw[i]at j;cases j;obtain⟨x,u,k,s⟩:=Si f.1;rw[e]at k;cases k
  omega
set_option maxRecDepth 100000
theorem Ci(T:List Tk)(ar:Xu)(cT:Nat)(S:List Sm)(ap:Xu)(cS:Nat)(p:jO)(hp:Hd)(w:World)(hD:gx w i T ar cT S ap cS)(ok:px T S f)(hB:LR T S f)(cj:QP T S f)(hn:f<S.length)(hE:dU T (aq S f).h)(ds:(aq S f).a<T.length)(dv:(aq S f).z=H+1)(d0:H<T.length)(hP:dh w hp.ao 6 lH p.st)(a6:LW T S f p) :
  Calls prog 90 #[pointer (some ⟨i,0,none⟩),int i64 f,agg #[slice hp.ao p.st.length hp.cap,int i64 p.why,string p.XY,int i64 p.XZ,int i64 p.X0]] w fun e w'=>LY w (lz T S f p (T.getD H gQ)) e w':=by
 obtain⟨W,HW⟩:=bn (((w.alloc (.cells #[slice hp.ao p.st.length hp.cap,int i64 p.why,string p.XY,int i64 p.XZ,int i64 p.X0] 122)).alloc (.cells #[string ⟨#[]⟩,int i64 0,int i64 0,string ⟨#[]⟩,int i64 0,int i64 0] 38)).alloc (.cells #[string ⟨#[]⟩,int i64 2,int i64 p.why,string p.XY,int i64 p.XZ,int i64 p.X0] 38));have V0:Cz w W p hp ⟨⟨#[]⟩,2,p.why,p.XY,p.XZ,p.X0⟩:=by
  obtain⟨W1,a3⟩:∃W1,W1=w.alloc (.cells #[slice hp.ao p.st.length hp.cap,int i64 p.why,string p.XY,int i64 p.XZ,int i64 p.X0] 122):=⟨_,rfl⟩
  obtain⟨W2,a4⟩:∃W2,W2=W1.alloc (.cells #[string ⟨#[]⟩,int i64 0,int i64 0,string ⟨#[]⟩,int i64 0,int i64 0] 38):=⟨_,rfl⟩
  have O:W1.heap.size=w.heap.size+1:=by rw[a3];simp
  have Q:W2.heap.size=w.heap.size+2:=by rw[a4];simp[O]
  have k0:=fH a3.symm;have k1:=fH a4.symm;have G:=f8 a3.symm;have I:W2.heap[w.heap.size+1]?=some (.cells (ld Qh).toArray 38):=by rw[a4,<-O];exact Ts _ _
  rw[<-HW.o,<-a3,<-a4];have k2:ae [] W2 (W2.alloc (.cells #[string ⟨#[]⟩,int i64 2,int i64 p.why,string p.XY,int i64 p.XZ,int i64 p.X0] 38)):=kr0.alloc _;exact⟨k2.get (k1.get G (by simp)) (by simp),k2.get I (by simp),by rw[<-Q];exact Ts _ _,(k0.trans k1).trans k2⟩
 have a1:Xr _:=V0;have HD:Xr _:=hD;have cE:Xr _:=ok;have HP:Xr _:=hP;have d4:=ok.tm;have cy:Xr _:=hB;have cX:Xr _:=cj;have cH:Xr _:=hE;have a2:=a6.le;have bj:Xr _:=a6.nd;have bo:Xr _:=a6.st;have b4:Xr (Calls prog 88 #[pointer (some ⟨i,0,none⟩),int i64 f] W fun e w'=>e=returned (string (bR T (aq S f)))/\ae [] W w'):=by
  have:=rx i f T ar cT S ap cS W (hD.XD V0.XQ) hn (by rw[bV S f hn];exact ds);rw[bV S f hn]at this;exact this
 have ac:Xr (lz T S f p (T.getD H gQ)=if(p.why==0)=false then⟨bR T (aq S f),2,p.why,p.XY,p.XZ,p.X0⟩
  else if 0<=ie p.st then⟨bR T (aq S f),3,p.why,(bN p.st (ie p.st).toNat).XY,(bN p.st (ie p.st).toNat).XZ,(bN p.st (ie p.st).toNat).X0⟩
  else nY T S f p.st (bR T (aq S f)) (T.getD H gQ) p.st.length 0 []):=rfl
 have cb:Xr (∀F:World,ae [] w F->∃gT gs,ar=some ⟨gT,0,none⟩/\ap=some ⟨gs,0,none⟩/\gT<F.heap.size/\gs<F.heap.size/\i<F.heap.size/\F.cell? ⟨i,0,none⟩=some (slice ar T.length cT)/\F.cell? ⟨i,1,none⟩=some (slice ap S.length cS)/\F.cell? ⟨gs,f*4+1,none⟩=some (int i64 ((H:Int)+1))/\F.cell? ⟨gT,H*5+2,none⟩=some (string (T.getD H gQ).XY)/\F.cell? ⟨gT,H*5+3,none⟩=some (int i64 (T.getD H gQ).XZ)/\F.cell? ⟨gT,H*5+4,none⟩=some (int i64 (T.getD H gQ).X0)):=fun F kx=>by
  have hd:=gx.XD HD.o kx;obtain⟨c0,c1,hb⟩:=hd.cells;obtain⟨gs,J,bw,-,q1,-,-⟩:=hd.s.2 f S[f] (Tm hn);rw[bV S f hn,dv,show((H+1:Nat):Int)=(H:Int)+1 by omega]at q1;obtain⟨gT,K,bv,-,-,t2,t3,t4⟩:=hd.t.2 H _ (jc T H d0);exact⟨gT,gs,K,J,bv,bw,hb,c0,c1,q1,t2,t3,t4⟩
 have bf:Xr (∀F,ae [] w F->Calls prog 131 #[agg #[slice hp.ao p.st.length hp.cap,int i64 p.why,string p.XY,int i64 p.XZ,int i64 p.X0]] F fun e w'=>e=returned (int i64 (ie p.st))/\ae [] F w'):=fun F kx=>JT p.st hp.ao hp.cap p.why p.XY p.XZ p.X0 F (hP.XD kx) a2;have cl:=Fm p.st;obtain⟨iL,dp,ct,cu,cx⟩:=TY Fo;clear hD ok hB cj hE hP a6 V0;obtain⟨l,Hl⟩:=bn (bR T (aq S f));rw[Hl.o]at b4 ac;obtain⟨V,c2⟩:=bn (lz T S f p (T.getD H gQ));rw[c2.o]at ac ⊢;obtain⟨P,y,pf,pl,pc⟩:=p;simp only at ac bf cl a2 bj bo HP;obtain⟨G,I,m,J,K,Y⟩:=a1.o.prf;obtain⟨⟨n,u,B,C,D,E⟩,⟨Z,f1,f2,f3,f4,f5⟩,c⟩:=ff a1.o.r;obtain⟨⟨z0,O,Q,z3,z4,z5⟩,⟨y0,y1,y2,y3,y4,y5⟩,b⟩:=ff a1.o.z;simp only at n u B C D E;go_enter func90,ntmps90;go_upto_region 2 with fail
 rw[HW.o];go_upto_region 3 with (go_at_call 88;refine Tr b4.o ?_;rintro e w1 ⟨rfl,k1⟩;have V1:=a1.o.XD k1;obtain⟨⟨u0,-⟩,⟨u1,-⟩,u2⟩:=ff V1.r)
 have ag:Xr (Cz w (w1.setCell ⟨w.heap.size+2,0,none⟩ (string l)) ⟨P,y,pf,pl,pc⟩ hp ⟨l,2,y,pf,pl,pc⟩):=V1.set 0 (string l) rfl;obtain⟨X2,cf⟩:=bn (w1.setCell ⟨w.heap.size+2,0,none⟩ (string l));rw[cf.o]at ag ⊢;clear V1 u0 u1 u2 k1 cf;clear G I m J K Y n u B C D E Z f1 f2 f3 f4 f5 c z0 O Q z3 z4 z5 y0 y1 y2 y3 y4 y5 b;obtain⟨G,I,m,J,K,Y⟩:=ag.o.prf;obtain⟨⟨n,u,B,C,D,E⟩,⟨Z,f1,f2,f3,f4,f5⟩,c⟩:=ff ag.o.r;obtain⟨⟨z0,O,Q,z3,z4,z5⟩,⟨y0,y1,y2,y3,y4,y5⟩,b⟩:=ff ag.o.z;simp only at n u B C D E;simp only at G I m J K;cases hy:(y==0)
 ·rw[hy,Tq rfl]at ac;have HX:Xr (V=⟨l,2,y,pf,pl,pc⟩):=ac.o;go_wp2;obtain⟨x0,x1,x2,x3,x4,x5⟩:=pg ag.o.z (string l) (int i64 2) (int i64 y) (string pf) (int i64 pl) (int i64 pc);exact Ty (v:=agg #[string l,int i64 2,int i64 y,string pf,int i64 pl,int i64 pc]) (by simp[results,results90,go_sem,x0,x1,x2,x3,x4,x5]) rfl ⟨by rw[HX.o];rfl,(((((ag.o.XQ.sr1 (by simp) _).sr1 (by simp) _).sr1 (by simp) _).sr1 (by simp) _).sr1 (by simp) _).sr1 (by simp) _⟩
 ·rw[hy,To (by simp)]at ac;have dT:y=0:=by simpa using hy
  subst dT;have b3:Xr _:=bf.o X2 ag.o.XQ;go_upto_region 6 with (go_at_call 131;refine Tr b3.o ?_;rintro e w3 ⟨rfl,k3⟩)
  have al:Xr _:=ag.o.XD k3;clear k3;clear G I m J K Y n u B C D E Z f1 f2 f3 f4 f5 c z0 O Q z3 z4 z5 y0 y1 y2 y3 y4 y5 b;obtain⟨G,I,m,J,K,Y⟩:=al.o.prf;obtain⟨⟨n,u,B,C,D,E⟩,⟨Z,f1,f2,f3,f4,f5⟩,c⟩:=ff al.o.r;obtain⟨⟨z0,O,Q,z3,z4,z5⟩,⟨y0,y1,y2,y3,y4,y5⟩,b⟩:=ff al.o.z;simp only at n u B C D E;simp only at G I m J K;rcases cl with ⟨hh,co⟩ | ⟨k,hk,hh⟩
  ·rw[hh,To (by omega)]at ac;rw[hh];obtain⟨d3,cs⟩:=bo.o (by trivial);have cV:Xr (∀j,j<P.length->L8 T S f P j):=fun j hi=>cs j hi (co j hi);have cA:Xr (io w3 w3 ⟨none,0⟩ (l4 [])):=⟨Tw _ _ _ _,(by intro k hk;cases hk),ae.refl _ _⟩;have ba:Xr (nY T S f P l (T.getD H gQ) (P.length-0) 0 (([]:List Sl).map (·.L))=V):=ac.o.symm;obtain⟨tz,c9⟩:=bn (T.getD H gQ);rw[c9.o]at cb ba;clear cs co hh ac bo bf b3;go_wp2;clear G I m J K Y n u B C D E Z f1 f2 f3 f4 f5 c z0 O Q z3 z4 z5 y0 y1 y2 y3 y4 y5 b
   go_loopg [9,10] P.length (fun g o iv wr=>∃(j:Nat) (h:Hd) (A:List Sl),j<=P.length/\g=P.length-j/\o=slice h.ao A.length h.cap/\iv=int i64 j/\Xr (A.length=j)/\Xr (∀s∈A,pv wr s)/\Xr (∀s∈A,∀q o,s.ao=some ⟨q,o,none⟩->h.XR≠some q)/\Xr (nY T S f P l tz (P.length-j) j (A.map (·.L))=V)/\Xr (io w3 wr h (l4 A)))
   ·exact⟨0,⟨none,0⟩,[],by omega,rfl,rfl,rfl,rfl,(fun s hs=>by cases hs),(fun s hs=>by cases hs),ba,cA⟩
   obtain⟨j,h,A,hi,hg,rfl,rfl,av,bd,be,HG,ax⟩:=hrel;have an:Xr _:=al.o.XD ax.o.XQ;have a0:Xr _:=an.o.XQ;obtain⟨G,I,m,J,K,Y⟩:=an.o.prf;obtain⟨⟨n,u,B,C,D,E⟩,⟨Z,f1,f2,f3,f4,f5⟩,c⟩:=ff an.o.r;obtain⟨⟨z0,O,Q,z3,z4,z5⟩,⟨y0,y1,y2,y3,y4,y5⟩,b⟩:=ff an.o.z;simp only at n u B C D E;simp only at G I m J K;rcases kn j P.length with ⟨aT,d5⟩ | ⟨aT,-⟩
   ·have bl:Xr _:=Lg i f j T ar cT S ap cS P hp.ao hp.cap 0 pf pl pc A h.ao h.cap wr (gx.XD HD.o a0.o) cE.o cy.o cX.o hn (dh.XD HP.o a0.o) a2 bj.o aT (cV.o j aT) (ax.o.X6.srcG wT) bd.o av.o;obtain⟨d,hd⟩:∃d,P.length-j=d+1:=⟨P.length-j-1,by omega⟩
    have af:Xr (nY T S f P l tz (d+1) j (A.map (·.L))=V):=(by rw[<-hd];exact HG);rw[nY]at af;have c7:Xr (P.length-(j+1)=d):=cg (by omega);clear hd HG;obtain⟨SR,cR⟩:=bn (iC T S f P j (A.map (·.L)));rw[cR.o]at bl af;obtain⟨sE,sW⟩:=SR;simp only at af;(go_upto_region 15 with (go_at_call 132;refine Tr bl.o ?_;rintro e w4 ⟨s,rfl,cq,bc,cr,k4⟩));have R:Xr _:=an.o.XD k4;have cc:Xr _:=ax.o.XD k4;have a7:Xr (∀s∈A,pv w4 s):=fun s hs=>(bd.o s hs).XD k4;have ca:Xr (s.L=sE):=cq;have cL:Xr ((sW==0)=true->pv w4 s):=bc;have b6:Xr (∀q o,s.ao=some ⟨q,o,none⟩->h.XR≠some q):=fun q o e hb=>by
     rcases cr with hm | hf
     ·exact be.o s hm q o e hb
     ·have:=hf q o e;have:=ax.o.X6.lt hb;omega
    clear cq bc cr k4 bl;clear G I m J K Y n u B C D E Z f1 f2 f3 f4 f5 c z0 O Q z3 z4 z5 y0 y1 y2 y3 y4 y5 b;obtain⟨G,I,m,J,K,Y⟩:=R.o.prf;obtain⟨⟨n,u,B,C,D,E⟩,⟨Z,f1,f2,f3,f4,f5⟩,c⟩:=ff R.o.r;obtain⟨⟨z0,O,Q,z3,z4,z5⟩,⟨y0,y1,y2,y3,y4,y5⟩,b⟩:=ff R.o.z;simp only at n u B C D E;simp only at G I m J K;cases hw:(sW==0)
    ·rw[hw,Tq rfl]at af;have HX:Xr (V=⟨l,2,sW,(bN P j).XY,(bN P j).XZ,(bN P j).X0⟩):=af.o.symm;obtain⟨gP,az,aS,-,-,-,q3,q4,q5⟩:=dh.step (dh.XD HP.o R.o.XQ) j aT;have HQ:Xr (∀F:World,ae [] w F->gP<F.heap.size/\F.cell? ⟨gP,j*6+3,none⟩=some (string (bN P j).XY)/\F.cell? ⟨gP,j*6+4,none⟩=some (int i64 (bN P j).XZ)/\F.cell? ⟨gP,j*6+5,none⟩=some (int i64 (bN P j).X0)):=fun F kx=>by
      obtain⟨g2,m,h2,-,-,-,c3,c4,c5⟩:=dh.step (dh.XD HP.o kx) j aT;rw[az]at m;cases m
      exact⟨h2,c3,c4,c5⟩
     generalize (bN P j).XY=sf at *;generalize (bN P j).XZ=sl at *;generalize (bN P j).X0=sc at *;clear aS q3 q4 q5;(go_upto_region 17 with fail);have M:Xr (Cz w (w4.setCell ⟨w.heap.size+2,2,none⟩ (int i64 sW)) ⟨P,0,pf,pl,pc⟩ hp ⟨l,2,sW,pf,pl,pc⟩):=R.o.set 2 (int i64 sW) rfl;obtain⟨X4,bp⟩:=bn (w4.setCell ⟨w.heap.size+2,2,none⟩ (int i64 sW));rw[bp.o]at M ⊢;clear G I m J K Y n u B C D E Z f1 f2 f3 f4 f5 c z0 O Q z3 z4 z5 y0 y1 y2 y3 y4 y5 b;obtain⟨G,I,m,J,K,Y⟩:=M.o.prf;obtain⟨⟨n,u,B,C,D,E⟩,⟨Z,f1,f2,f3,f4,f5⟩,c⟩:=ff M.o.r;obtain⟨⟨z0,O,Q,z3,z4,z5⟩,⟨y0,y1,y2,y3,y4,y5⟩,b⟩:=ff M.o.z;simp only at n u B C D E;simp only at G I m J K;obtain⟨aS,q3,q4,q5⟩:=HQ.o X4 M.o.XQ;rw[az]at G;(go_upto_region 18 with fail);have U:Xr (Cz w (((X4.setCell ⟨w.heap.size+2,3,none⟩ (string sf)).setCell ⟨w.heap.size+2,4,none⟩ (int i64 sl)).setCell ⟨w.heap.size+2,5,none⟩ (int i64 sc)) ⟨P,0,pf,pl,pc⟩ hp ⟨l,2,sW,sf,sl,sc⟩):=((M.o.set (r':=⟨l,2,sW,sf,pl,pc⟩) 3 (string sf) rfl).set (r':=⟨l,2,sW,sf,sl,pc⟩) 4 (int i64 sl) rfl).set 5 (int i64 sc) rfl;obtain⟨X5,br⟩:=bn (((X4.setCell ⟨w.heap.size+2,3,none⟩ (string sf)).setCell ⟨w.heap.size+2,4,none⟩ (int i64 sl)).setCell ⟨w.heap.size+2,5,none⟩ (int i64 sc));rw[br.o]at U ⊢;clear G I m J K Y n u B C D E Z f1 f2 f3 f4 f5 c z0 O Q z3 z4 z5 y0 y1 y2 y3 y4 y5 b;obtain⟨G,I,m,J,K,Y⟩:=U.o.prf;obtain⟨⟨n,u,B,C,D,E⟩,⟨Z,f1,f2,f3,f4,f5⟩,c⟩:=ff U.o.r;obtain⟨⟨z0,O,Q,z3,z4,z5⟩,⟨y0,y1,y2,y3,y4,y5⟩,b⟩:=ff U.o.z;simp only at n u B C D E;go_wp2;obtain⟨x0,x1,x2,x3,x4,x5⟩:=pg U.o.z (string l) (int i64 2) (int i64 sW) (string sf) (int i64 sl) (int i64 sc);exact Ty (v:=agg #[string l,int i64 2,int i64 sW,string sf,int i64 sl,int i64 sc]) (by simp[results,results90,go_sem,x0,x1,x2,x3,x4,x5]) rfl ⟨by rw[HX.o];rfl,(((((U.o.XQ.sr1 (by simp) _).sr1 (by simp) _).sr1 (by simp) _).sr1 (by simp) _).sr1 (by simp) _).sr1 (by simp) _⟩
    ·rw[hw,To (by simp)]at af;have dz:sW=0:=(by simpa using hw);subst dz;have b5:Xr _:=cL.o rfl;rw[<-ca.o]at af;have cB:Xr (([slice s.ao sE.length s.cap]:List Value)=Gq s):=cg (by unfold Gq;rw[ca.o]);have df:=cc.o.X6;have cF:Xr ((l4 A).n<=900000000):=by show A.length<=_;rw[av.o];omega
     go_wp2_with (at_builtin;refine cC _ rfl (.tmp 71) (.tmp 73) 218 rfl iL (slice none 0 0) 24 h (l4 A) [slice s.ao sE.length s.cap] underlying218 dp ct cu cx rfl TQ rfl df cF.o (by omega) rfl rfl (by simp[Value.oneCell']) ?_;intro h7 w7 bx a5;rw[cB.o,rI]at bx;have cz:Xr _:=cc.o.XN a5 bx;have bz:Xr _:=Qk a5 a7.o be.o b5.o b6.o;have bT:Xr _:=OQ a5 a7.o be.o b5.o b6.o;clear bx a5);go_roundg (P.length-(j+1))
     ·exact⟨j+1,h7,A++[s],by omega,rfl,by simp[l4,lF],by go_num,by show _=_;rw[Tu,av.o];rfl,bz,bT,by rw[c7.o,Ug];exact af,cz⟩
     omega
   ·obtain⟨q,hq⟩:∃q,P.length=q+1:=⟨P.length-1,by omega⟩
    have d1:¬(j:Int)<P.length:=(by omega);have ea:IntKind.i64.wrap ((P.length:Int)-1)=(q:Int):=(by rw[UW];omega);have af:Xr (tp T S f P l tz (A.map (·.L))=V):=(by have:=HG.o;rw[show P.length-j=0 by omega,nY]at this;exact this);have ad:Xr (tp T S f P l tz (A.map (·.L))=if(dP P q==0)=false then⟨l,2,11,tz.XY,tz.XZ,tz.X0⟩ else if lr (bb T S f) (gO A q).L=false then⟨l,2,12,tz.XY,tz.XZ,tz.X0⟩ else⟨l,4,0,⟨#[]⟩,0,0⟩):=cg (by unfold tp;rw[show P.length-1=q by omega,xU A q (by rw[av.o];omega)]);have cp:q<A.length:=(by rw[av.o];omega);have d2:(q:Int)<A.length:=(by omega);have dt:q<P.length:=(by omega);have d9:(0:Int)<=(q:Int):=(by omega);clear hq HG;rw[af.o]at ad;have b2:Xr _:=(uR P hp.ao hp.cap 0 pf pl pc a2 bj.o (q+1) q wr (by omega) dt (dh.XD HP.o a0.o));generalize dP P q=bg at *;have b1:Xr (∀F,ae [] w F->Calls prog 73 #[pointer (some ⟨i,0,none⟩),int i64 (f:Int)] F fun e w'=>∃h',e=returned (slice h'.ao (bb T S f).length h'.cap)/\zC F w' h' (bb T S f)):=fun F kx=>by
     have:=mo i f T ar cT S ap cS F (gx.XD HD.o kx) hn (by omega) (by rw[bV S f hn];exact cH.o);rw[bV S f hn]at this;exact this
    have dg:(bb T S f).length<=T.length:=lS T _;obtain⟨X,c6⟩:=bn (bb T S f);rw[c6.o]at b1 dg ad;(go_upto_region 22 with (go_at_call 133;refine Tr b2.o ?_;rintro e w4 ⟨rfl,k4⟩));have b0:Xr _:=b1.o w4 (a0.o.trans k4);(go_upto_region 23 with (go_at_call 73;refine Tr b0.o ?_;rintro e w5 ⟨h5,rfl,x5⟩));have k5:=k4.trans x5.XQ;have M:Xr _:=an.o.XD k5;obtain⟨gA,dc,dl,db⟩:=dh.sl ((ax.o.XD k5).X6.srcG wT) q cp;have cP:Xr _:=(bd.o (gO A q) (km A q cp)).XD k5;have bk:Xr _:=(Ef X (gO A q).L h5.ao (gO A q).ao h5.cap (gO A q).cap w5 x5.X6.srcX cP.o.x (by omega));generalize gO A q=s at *;obtain⟨sm,c8⟩:=bn (lr X s.L);rw[c8.o]at bk ad;rw[dc];clear k4 k5 x5 b0 b2;clear G I m J K Y n u B C D E Z f1 f2 f3 f4 f5 c z0 O Q z3 z4 z5 y0 y1 y2 y3 y4 y5 b;(go_upto_region 24 with (go_at_call 134;refine Tr bk.o ?_;rintro e w6 ⟨rfl,k6⟩));have U:Xr _:=M.o.XD k6;clear k6 db dl bk;obtain⟨G,I,m,J,K,Y⟩:=U.o.prf;obtain⟨⟨n,u,B,C,D,E⟩,⟨Z,f1,f2,f3,f4,f5⟩,c⟩:=ff U.o.r;obtain⟨⟨z0,O,Q,z3,z4,z5⟩,⟨y0,y1,y2,y3,y4,y5⟩,b⟩:=ff U.o.z;simp only at n u B C D E;simp only at G I m J K;obtain⟨gT,gs,rfl,rfl,bv,bw,dk,c0,c1,q1,t2,t3,t4⟩:=cb.o w6 U.o.XQ;have d8:(f:Int)<S.length:=(by omega);have eb:(H:Int)<T.length:=(by omega);obtain⟨ts,tr,tf,tl,tc⟩:=tz;simp only at t2 t3 t4 ad;have ai:Xr (Cz w (((w6.setCell ⟨w.heap.size+2,3,none⟩ (string tf)).setCell ⟨w.heap.size+2,4,none⟩ (int i64 tl)).setCell ⟨w.heap.size+2,5,none⟩ (int i64 tc)).drew ⟨P,0,pf,pl,pc⟩ hp ⟨l,2,0,tf,tl,tc⟩):=(((U.o.set (r':=⟨l,2,0,tf,pl,pc⟩) 3 (string tf) rfl).set (r':=⟨l,2,0,tf,tl,pc⟩) 4 (int i64 tl) rfl).set (r':=⟨l,2,0,tf,tl,tc⟩) 5 (int i64 tc) rfl).XD kr0.drew;go_region;obtain⟨X7,ch⟩:=bn ((((w6.setCell ⟨w.heap.size+2,3,none⟩ (string tf)).setCell ⟨w.heap.size+2,4,none⟩ (int i64 tl)).setCell ⟨w.heap.size+2,5,none⟩ (int i64 tc)).drew);rw[ch.o]at ai ⊢;clear G I m J K Y n u B C D E Z f1 f2 f3 f4 f5 c z0 O Q z3 z4 z5 y0 y1 y2 y3 y4 y5 b;clear bv bw dk c0 c1 q1 t2 t3 t4 ch;obtain⟨G,I,m,J,K,Y⟩:=ai.o.prf;obtain⟨⟨n,u,B,C,D,E⟩,⟨Z,f1,f2,f3,f4,f5⟩,c⟩:=ff ai.o.r;obtain⟨⟨z0,O,Q,z3,z4,z5⟩,⟨y0,y1,y2,y3,y4,y5⟩,b⟩:=ff ai.o.z;simp only at n u B C D E;simp only at G I m J K;cases ck:(bg==0)
    ·rw[ck,Tq rfl]at ad;have HX:Xr (V=⟨l,2,11,tf,tl,tc⟩):=ad.o;(go_upto_region 27 with fail);have N:Xr (Cz w (X7.setCell ⟨w.heap.size+2,2,none⟩ (int i64 11)) ⟨P,0,pf,pl,pc⟩ hp ⟨l,2,11,tf,tl,tc⟩):=ai.o.set 2 (int i64 11) rfl;obtain⟨X8,bs⟩:=bn (X7.setCell ⟨w.heap.size+2,2,none⟩ (int i64 11));rw[bs.o]at N ⊢;clear G I m J K Y n u B C D E Z f1 f2 f3 f4 f5 c z0 O Q z3 z4 z5 y0 y1 y2 y3 y4 y5 b;obtain⟨G,I,m,J,K,Y⟩:=N.o.prf;obtain⟨⟨n,u,B,C,D,E⟩,⟨Z,f1,f2,f3,f4,f5⟩,c⟩:=ff N.o.r;obtain⟨⟨z0,O,Q,z3,z4,z5⟩,⟨y0,y1,y2,y3,y4,y5⟩,b⟩:=ff N.o.z;simp only at n u B C D E;go_wp2;obtain⟨x0,x1,x2,x3,x4,x5⟩:=pg N.o.z (string l) (int i64 2) (int i64 11) (string tf) (int i64 tl) (int i64 tc);exact Ty (v:=agg #[string l,int i64 2,int i64 11,string tf,int i64 tl,int i64 tc]) (by simp[results,results90,go_sem,x0,x1,x2,x3,x4,x5]) rfl ⟨by rw[HX.o];rfl,(((((N.o.XQ.sr1 (by simp) _).sr1 (by simp) _).sr1 (by simp) _).sr1 (by simp) _).sr1 (by simp) _).sr1 (by simp) _⟩
    ·rw[ck,To (by simp)]at ad;cases sm
     ·rw[Tq rfl]at ad;have HX:Xr (V=⟨l,2,12,tf,tl,tc⟩):=ad.o;(go_upto_region 30 with fail);have N:Xr (Cz w (X7.setCell ⟨w.heap.size+2,2,none⟩ (int i64 12)) ⟨P,0,pf,pl,pc⟩ hp ⟨l,2,12,tf,tl,tc⟩):=ai.o.set 2 (int i64 12) rfl;obtain⟨X8,bs⟩:=bn (X7.setCell ⟨w.heap.size+2,2,none⟩ (int i64 12));rw[bs.o]at N ⊢;clear G I m J K Y n u B C D E Z f1 f2 f3 f4 f5 c z0 O Q z3 z4 z5 y0 y1 y2 y3 y4 y5 b;obtain⟨G,I,m,J,K,Y⟩:=N.o.prf;obtain⟨⟨n,u,B,C,D,E⟩,⟨Z,f1,f2,f3,f4,f5⟩,c⟩:=ff N.o.r;obtain⟨⟨z0,O,Q,z3,z4,z5⟩,⟨y0,y1,y2,y3,y4,y5⟩,b⟩:=ff N.o.z;simp only at n u B C D E;go_wp2;obtain⟨x0,x1,x2,x3,x4,x5⟩:=pg N.o.z (string l) (int i64 2) (int i64 12) (string tf) (int i64 tl) (int i64 tc);exact Ty (v:=agg #[string l,int i64 2,int i64 12,string tf,int i64 tl,int i64 tc]) (by simp[results,results90,go_sem,x0,x1,x2,x3,x4,x5]) rfl ⟨by rw[HX.o];rfl,(((((N.o.XQ.sr1 (by simp) _).sr1 (by simp) _).sr1 (by simp) _).sr1 (by simp) _).sr1 (by simp) _).sr1 (by simp) _⟩
     ·rw[To (by simp)]at ad;have HX:Xr (V=⟨l,4,0,⟨#[]⟩,0,0⟩):=ad.o;go_wp2;obtain⟨x0,x1,x2,x3,x4,x5⟩:=pg ai.o.z (string l) (int i64 4) (int i64 0) (string ⟨#[]⟩) (int i64 0) (int i64 0);exact Ty (v:=agg #[string l,int i64 4,int i64 0,string ⟨#[]⟩,int i64 0,int i64 0]) (by simp[results,results90,go_sem,x0,x1,x2,x3,x4,x5]) rfl ⟨by rw[HX.o];rfl,(((((ai.o.XQ.sr1 (by simp) _).sr1 (by simp) _).sr1 (by simp) _).sr1 (by simp) _).sr1 (by simp) _).sr1 (by simp) _⟩
  ·rw[hh,Tq (by omega),Uq]at ac;rw[hh];have d6:(0:Int)<=(k:Int):=by omega
   have d7:(k:Int)<P.length:=(by omega);have HX:Xr (V=⟨l,3,0,(bN P k).XY,(bN P k).XZ,(bN P k).X0⟩):=ac.o;obtain⟨gP,az,aS,-,-,-,q3,q4,q5⟩:=dh.step (dh.XD HP.o al.o.XQ) k hk;have HQ:Xr (∀F:World,ae [] w F->gP<F.heap.size/\F.cell? ⟨gP,k*6+3,none⟩=some (string (bN P k).XY)/\F.cell? ⟨gP,k*6+4,none⟩=some (int i64 (bN P k).XZ)/\F.cell? ⟨gP,k*6+5,none⟩=some (int i64 (bN P k).X0)):=fun F kx=>by
    obtain⟨g2,m,h2,-,-,-,c3,c4,c5⟩:=dh.step (dh.XD HP.o kx) k hk;rw[az]at m;cases m
    exact⟨h2,c3,c4,c5⟩
   generalize (bN P k).XY=sf at *;generalize (bN P k).XZ=sl at *;generalize (bN P k).X0=sc at *;clear aS q3 q4 q5;(go_upto_region 8 with fail);have R:Xr (Cz w (w3.setCell ⟨w.heap.size+2,1,none⟩ (int i64 3)) ⟨P,0,pf,pl,pc⟩ hp ⟨l,3,0,pf,pl,pc⟩):=al.o.set 1 (int i64 3) rfl;obtain⟨X4,bp⟩:=bn (w3.setCell ⟨w.heap.size+2,1,none⟩ (int i64 3));rw[bp.o]at R ⊢;clear G I m J K Y n u B C D E Z f1 f2 f3 f4 f5 c z0 O Q z3 z4 z5 y0 y1 y2 y3 y4 y5 b;obtain⟨G,I,m,J,K,Y⟩:=R.o.prf;obtain⟨⟨n,u,B,C,D,E⟩,⟨Z,f1,f2,f3,f4,f5⟩,c⟩:=ff R.o.r;obtain⟨⟨z0,O,Q,z3,z4,z5⟩,⟨y0,y1,y2,y3,y4,y5⟩,b⟩:=ff R.o.z;simp only at n u B C D E;simp only at G I m J K;obtain⟨aS,q3,q4,q5⟩:=HQ.o X4 R.o.XQ;rw[az]at G;(go_upto_region 9 with fail);have M:Xr (Cz w (((X4.setCell ⟨w.heap.size+2,3,none⟩ (string sf)).setCell ⟨w.heap.size+2,4,none⟩ (int i64 sl)).setCell ⟨w.heap.size+2,5,none⟩ (int i64 sc)) ⟨P,0,pf,pl,pc⟩ hp ⟨l,3,0,sf,sl,sc⟩):=((R.o.set (r':=⟨l,3,0,sf,pl,pc⟩) 3 (string sf) rfl).set (r':=⟨l,3,0,sf,sl,pc⟩) 4 (int i64 sl) rfl).set 5 (int i64 sc) rfl;obtain⟨X5,br⟩:=bn (((X4.setCell ⟨w.heap.size+2,3,none⟩ (string sf)).setCell ⟨w.heap.size+2,4,none⟩ (int i64 sl)).setCell ⟨w.heap.size+2,5,none⟩ (int i64 sc));rw[br.o]at M ⊢;clear G I m J K Y n u B C D E Z f1 f2 f3 f4 f5 c z0 O Q z3 z4 z5 y0 y1 y2 y3 y4 y5 b;obtain⟨G,I,m,J,K,Y⟩:=M.o.prf;obtain⟨⟨n,u,B,C,D,E⟩,⟨Z,f1,f2,f3,f4,f5⟩,c⟩:=ff M.o.r;obtain⟨⟨z0,O,Q,z3,z4,z5⟩,⟨y0,y1,y2,y3,y4,y5⟩,b⟩:=ff M.o.z;simp only at n u B C D E;go_wp2;obtain⟨x0,x1,x2,x3,x4,x5⟩:=pg M.o.z (string l) (int i64 3) (int i64 0) (string sf) (int i64 sl) (int i64 sc);exact Ty (v:=agg #[string l,int i64 3,int i64 0,string sf,int i64 sl,int i64 sc]) (by simp[results,results90,go_sem,x0,x1,x2,x3,x4,x5]) rfl ⟨by rw[HX.o];rfl,(((((M.o.XQ.sr1 (by simp) _).sr1 (by simp) _).sr1 (by simp) _).sr1 (by simp) _).sr1 (by simp) _).sr1 (by simp) _⟩
structure gB(w:World)(v:Nat)(fs:Fs)(h:Hd)(on:Bool)(p2 p3 p4:Value):Prop where
 d:w.heap[v]?=some (.cells #[slice h.ao fs.length h.cap,bool on,p2,p3,p4] 85)
 X6:aB w h (cW fs)
 far:h.XR≠some v
 le:fs.length<=4
theorem gB.XD(a:gB w b T l o x y k)(c:ae [] w n):gB n b T l o x y k :=
 ⟨c.get a.d (by simp),a.X6.XD c,a.far,a.le⟩
theorem gB.keptS{S:Xv}(a:gB w b T l o x y k)(e:ae S w n)(g:b∉S)(f:∀q,l.XR=some q->q∉S):gB n b T l o x y k :=
 ⟨e.get a.d g,a.X6.XI (fun q c=>e.block q (a.X6.lt c) (f q c)),a.far,a.le⟩
theorem aB.putAt{r:eQ}(o:aB w l r)(d:l.ao=some ⟨b,0,none⟩)(j:Nat)(v:Value):aB (w.setCell ⟨b,j,none⟩ v) l ⟨r.e,r.size,r.n,r.xs.set j v⟩:=by
 refine⟨by rw[Ul];exact o.1,?_⟩;rcases o.2 with ⟨g,y⟩ | ⟨x,f,a,g,s,t,k,m,p,q⟩
 ·injection g with c
  rw[c]at d;cases d
 ·injection g with c u i
  rw[c]at d;cases d
  refine TA ⟨b,f,a.setIfInBounds j v,by rw[c,i],s,by rw[ab t],k,m,by rw[Array.size_setIfInBounds];exact p,?_⟩;rw[Wc]
  show(a.toList.set j v).take (r.n*r.size)=r.xs.set j v
  rw[<-q,Xf]
theorem aB.srcFi(o:aB w l (cW T)):ob w l.ao l.cap T:=by
 refine⟨?_,fun k m=>?_⟩
 ·rcases o.XO with ⟨e,b,_⟩ | ⟨g,c,n,p,d,-⟩
  ·have b:T.length=0:=b;omega
  ·exact d
 ·obtain⟨g,a,j,-⟩:=rC o (show 0<T.length by omega);obtain⟨f,i⟩:=xA T k m;exact⟨g,a,j,o.cell a (k*2) _ f,o.cell a (k*2+1) _ i⟩
set_option maxRecDepth 512
theorem Kk(w:World) :
  Calls prog 29 #[] w fun e a=>e=returned (pointer (some ⟨w.heap.size,0,none⟩))/\gB a w.heap.size [] ⟨none,0⟩ false (pointer none) (slice none 0 0) (slice none 0 0)/\ae [] w a:=by
 have b:Xr (gB (w.alloc (.cells #[slice none 0 0,bool false,pointer none,slice none 0 0,slice none 0 0] 85)) w.heap.size [] ⟨none,0⟩ false (pointer none) (slice none 0 0) (slice none 0 0)):=⟨Ts _ _,Tw _ _ _ _,(by intro e;cases e),by simp⟩;go_enter func29,ntmps29;go_wp2;go_ret;exact⟨rfl,b.o,kr0.alloc _⟩
def R2(w:World)(v:Nat)(fs:Fs)(h:Hd)(n d:Xs)(p2 p3 p4:Value)(e:Ending)(w':World):Prop :=
 e=returned (int i64 (fI fs n d).1)/\((fI fs n d).1=0->∃h',gB w' v (fI fs n d).2 h' false p2 p3 p4/\za w w' v h h')/\((fI fs n d).1≠0->ae [] w w')
theorem gB.off(a:gB w b T l o x y k):gB (w.setCell ⟨b,1,none⟩ (bool false)) b T l false x y k:=by
 have f:ae [b] w (w.setCell ⟨b,1,none⟩ (bool false)):=(ae.refl _ _).sl1 _;exact⟨by rw[ab a.d];rfl,a.X6.XI (fun q c=>f.block q (a.X6.lt c) (by simp;intro e;exact a.far (by rw[<-e];exact c))),a.far,a.le⟩
theorem za.set(r:za w n b l d)(i:Nat)(u:Value):za w (n.setCell ⟨b,i,none⟩ u) b l d:=⟨r.XQ.sl1 _,r.XR⟩
theorem gB.grown{c:Fs}(a:gB w b T l o x y k)(g:bq w n l d)(j:aB n d (cW c))(r:c.length<=4){m:Nat}(s:m=c.length):gB (n.setCell ⟨b,0,none⟩ (slice d.ao m d.cap)) b c d o x y k:=by
 have p:=g.XQ.get a.d (fun i=>a.far (aQ i));have v:=aj a.d;have f:d.XR≠some b:=by
  rcases g.XR with e | ⟨q,e,i⟩
  ·rw[e];exact a.far
  ·rw[e];intro u;cases u;omega
 have t:ae [b] n (n.setCell ⟨b,0,none⟩ (slice d.ao m d.cap)):=(ae.refl _ _).sl1 _;subst s;exact⟨by rw[ab p];rfl,j.XI (fun q i=>t.block q (j.lt i) (by simp;intro e;exact f (by rw[<-e];exact i))),f,r⟩
theorem gB.wrote(a:gB w b T l o x y k)(c:l.ao=some ⟨D,0,none⟩)(g:v<T.length)(n d:Xs):gB ((w.setCell ⟨D,v*2,none⟩ (string n)).setCell ⟨D,v*2+1,none⟩ (string d)).drew b (T.set v (n,d)) l o x y k:=by
 have f:l.XR=some D:=by unfold Hd.XR;rw[c];rfl
 have i:ae [D] w ((w.setCell ⟨D,v*2,none⟩ (string n)).setCell ⟨D,v*2+1,none⟩ (string d)).drew:=(((ae.refl _ _).sl1 _).sl1 _).drew;have j:aB ((w.setCell ⟨D,v*2,none⟩ (string n)).setCell ⟨D,v*2+1,none⟩ (string d)) l (cW (T.set v (n,d))):=by
  have:=(a.X6.putAt c (v*2) (string n)).putAt c (v*2+1) (string d);have e:(⟨(cW T).e,(cW T).size,(cW T).n,((cW T).xs.set (v*2) (string n)).set (v*2+1) (string d)⟩:eQ)=cW (T.set v (n,d)):=by
   simp only[cW,List.length_set];rw[Ik T v n d g]
  rw[e]at this;exact this
 refine⟨?_,j.XD kr0.drew,a.far,by rw[Ul];exact a.le⟩;rw[Ul];exact i.get a.d (by simp;intro e;exact a.far (by rw[f,e]))
set_option maxRecDepth 100000
theorem Ky(b:Fs)(h:Hd)(R:Bool)(p2 p3 p4:Value)(n d:Xs)(w:World)(U:gB w H b h R p2 p3 p4)(hn:n.size<=1073741824)(hd:d.size<=4294967296) :
  Calls prog 16 #[pointer (some ⟨H,0,none⟩),string n,string d] w fun e w'=>R2 w H b h n d p2 p3 p4 e w':=by
 have F:Xr (Calls prog 35 #[string n,string d] w fun e w'=>e=returned (int i64 (dn n d))/\w'=w):=C4 n d w hn hd;cases J:(dn n d==0)
 ·have r:Xr (fI b n d=(dn n d,b)):=by show _=_;unfold fI;rw[Tq (by simpa using J)]
  generalize dn n d=c at *;go_enter func16,ntmps16;go_wp2_with (go_at_call 35;refine Tr F.o ?_;rintro e E ⟨rfl,a⟩;rw[a];clear a);go_ret;exact⟨by rw[r.o];rfl,by rw[r.o];exact⟨(fun q=>by rw[show c=0 from q]at J;cases J),fun _=>ae.refl _ _⟩⟩
 ·have l:dn n d=0:=by simpa using J
  rw[l]at F;obtain⟨W,G⟩:=bn (w.alloc (.cells #[string n,string d] 68));have kW:=fH G.o;have BW:=f8 G.o;have s:=U.XD kW;have f:Xr _:=s;have O:W.cell? ⟨H,0,none⟩=some (slice h.ao b.length h.cap):=by rw[ah s.d];rfl
  have z0:=aj s.d;obtain⟨b0,b1⟩:=A9 BW;have z:Xr _:=kW;have V:=U.le;have i:Xr _:=(nu b h.ao h.cap n W (by omega) s.X6.srcFi);clear s U kW BW J;obtain⟨m,B⟩:=bn (b.length);rw[B.o]at O i V;rcases qB n b with x | ⟨k,L,x⟩
  ·rw[x]at i;by_cases hl:m=4
   ·have r:Xr (fI b n d=(1,b)):=(by show _=_;unfold fI;rw[To (by simpa using l),x,To (by omega),Tq (by rw[B.o];omega)]);subst hl;clear x l;go_enter func16,ntmps16;(go_upto_region 5 with (go_at_call 35;refine Tr F.o ?_;rintro e E ⟨rfl,a⟩;rw[a];clear a));rw[G.o];go_wp2_with (go_at_call 36;refine Tr i.o ?_;rintro e E ⟨rfl,a⟩;rw[a];clear a);go_ret;exact⟨by rw[r.o];rfl,by rw[r.o];exact⟨(fun q=>by cases q),fun _=>z.o⟩⟩
   ·have r:Xr (fI b n d=(0,b++[(n,d)])):=(by show _=_;unfold fI;rw[To (by simpa using l),x,To (by omega),To (by rw[B.o];omega)]);have an:((m:Int)==4)=false:=(by simp;omega);have A:Xr ((cW b).n=m):=B.o;clear x l;obtain⟨i0,hi,Y,Z,ac⟩:=TY Bn;have hD:Xr (gB (W.alloc (.cells #[string n,string d] 68)).drew H b h R p2 p3 p4):=f.o.XD ((ae.refl [] W).alloc _).drew;have s2:Xr (∀j u,([string n,string d]:List Value)[j]?=some u->(W.alloc (.cells #[string n,string d] 68)).drew.cell? ((⟨W.heap.size,0,none⟩:Addr).add j)=some u):=by
     intro j u hj;rw[bX];have L:(W.alloc (.cells #[string n,string d] 68)).drew.heap[W.heap.size]?=some (.cells #[string n,string d] 68):=Ts _ _;rw[ah L];simpa using hj
    have s3:Xr (∀u∈([string n,string d]:List Value),u.oneCell'=true):=by intro u hu;simp only[List.mem_cons,List.not_mem_nil,or_false]at hu;rcases hu with rfl | rfl <;> rfl
    have s4:Xr ((cW b).n+1<=maxLen):=(by show _<=_;rw[A.o];unfold maxLen;omega);have s5:Xr (((cW b).n+1)*32<=140737488355328):=(by show _<=_;rw[A.o];omega);go_enter func16,ntmps16;(go_upto_region 5 with (go_at_call 35;refine Tr F.o ?_;rintro e E ⟨rfl,a⟩;rw[a];clear a));rw[G.o];(go_upto_region 9 with (go_at_call 36;refine Tr i.o ?_;rintro e E ⟨rfl,a⟩;rw[a];clear a));go_region_law (refine da rfl (.tmp 41) (.tmp 43) 33 rfl i0 (agg #[string ⟨#[]⟩,string ⟨#[]⟩]) 32 h (cW b) underlying33 hi Y Z ac rfl (show 0<2 by omega) (by rw[A.o];simp[Act.eval]) hD.o.X6 ⟨W.heap.size,0,none⟩ 1 1 [string n,string d] (by simp[Act.eval]) rfl s2.o s3.o TQ s4.o s5.o ?_;intro Q p S M y K;have T:=(show Xr (bq W S h ⟨some ⟨Q,0,none⟩,p⟩) from(bq.XD ((ae.refl [] W).alloc _).drew).trans (bq.made y (by simpa using K)));have P:=T.o.XQ.get f.o.d (fun hq=>f.o.far (aQ hq));have e5:=am P 0;have e6:S.cell? ⟨H,0,none⟩=some (slice h.ao m h.cap):=(by rw[ah P,<-B.o];rfl);have z5:=aj P)
    all_goals
     have N:aB S ⟨some ⟨Q,0,none⟩,p⟩ (cW (b++[(n,d)])):=(by rw[<-yw];exact M);have t:Xr _:=(f.o.grown (m:=(cW b).n+1) T.o N (by simp;rw[B.o];omega) (by simp[cW]));obtain⟨X,D⟩:=bn (S.setCell ⟨H,0,none⟩ (slice (some ⟨Q,0,none⟩) ((cW b).n+1) p));have v:=(show Xr (za w X H h ⟨some ⟨Q,0,none⟩,p⟩) by rw[<-D.o];exact((za.of (bq.XD z.o)).trans (za.of T.o)).set 0 _);rw[D.o]at t ⊢;have x1:=am t.o.d 1;have x2:X.cell? ⟨H,1,none⟩=some (bool R):=(by rw[ah t.o.d];rfl);clear M y K P e5 e6 z5 N O D;go_wp2;go_ret;exact⟨by rw[r.o];rfl,by rw[r.o];exact⟨fun _=>⟨_,t.o.off,v.o.set 1 _⟩,fun q=>absurd rfl q⟩⟩
  ·have r:Xr (fI b n d=(0,b.set k (n,d))):=(by show _=_;unfold fI;rw[To (by simpa using l),x,Tq (by omega),Uq]);rw[x]at i;obtain⟨g,C,af,ag⟩:=rC f.o.X6 (show 0<b.length by omega);obtain⟨g',I,-,q0,q1⟩:=f.o.X6.srcFi.2 k L;rw[C]at I;cases I
   have t:Xr _:=f.o.wrote C L n d;have al:(k:Int)<(m:Int):=(by rw[B.o]at L;omega);have ai:(0:Int)<=(k:Int):=(by omega);have u0:W.frozen? ⟨g,k*2,none⟩=false/\W.frozen? ⟨g,k*2+1,none⟩=false:=by
    rcases f.o.X6.XO with ⟨e,-,-⟩ | ⟨g2,ad,e1,I,-⟩
    ·rw[e]at C;cases C
    ·rw[C]at e1;cases e1;exact⟨am I _,am I _⟩
   obtain⟨u0,u1⟩:=u0;have v:Xr (za w ((W.setCell ⟨g,k*2,none⟩ (string n)).setCell ⟨g,k*2+1,none⟩ (string d)).drew H h h):=by
    have hb:h.XR=some g:=(by unfold Hd.XR;rw[C];rfl);have:=z.o.mono (S':=H :: h.XR.toList) (by simp);exact⟨((this.setCell (TG (by rw[hb];simp)) _).setCell (TG (by rw[hb];simp)) _).drew,TG rfl⟩
   rw[C]at O i;clear x l;go_enter func16,ntmps16;(go_upto_region 5 with (go_at_call 35;refine Tr F.o ?_;rintro e E ⟨rfl,a⟩;rw[a];clear a));rw[G.o];(go_upto_region 10 with (go_at_call 36;refine Tr i.o ?_;rintro e E ⟨rfl,a⟩;rw[a];clear a));go_region;obtain⟨X,D⟩:=bn (((W.setCell ⟨g,k*2,none⟩ (string n)).setCell ⟨g,k*2+1,none⟩ (string d)).drew);rw[D.o]at t v ⊢;have x1:=am t.o.d 1;have x2:X.cell? ⟨H,1,none⟩=some (bool R):=(by rw[ah t.o.d];rfl);clear O D q0 q1 u0 u1;go_wp2;go_ret;exact⟨by rw[r.o];rfl,by rw[r.o];exact⟨fun _=>⟨_,t.o.off,v.o.set 1 _⟩,fun q=>absurd rfl q⟩⟩
def OH(x:jO×Hd):List Value:=[slice x.2.ao x.1.st.length x.2.cap,int i64 x.1.why,string x.1.XY,int i64 x.1.XZ,int i64 x.1.X0]
theorem PP(x:jO×Hd):(OH x).length=5:=rfl
def gN(L:List (jO×Hd)):eQ:=lF 122 5 OH L
def gF(L:List ip):eQ:=lF 38 6 ld L
structure OG(w:World)(v b:Nat)(x0 x1:Value)(PS:List (jO×Hd))(aoP:Xu)(cP:Nat)(RS:List ip)(aoR:Xu)(cR:Nat):Prop where
 d:w.heap[v]?=some (.cells #[x0,x1,pointer (some ⟨b,0,none⟩),slice aoP PS.length cP,slice aoR RS.length cR] 85)
 p:dh w aoP 5 OH PS
 q:∀x∈PS,dh w x.2.ao 6 lH x.1.st
 r:dh w aoR 6 ld RS
theorem OG.XD{f:List (jO×Hd)}{c:Xu}{g:List ip}{e:Xu}{i:Nat}(a:OG w b D x y f c v g e i)(k:ae [] w n):OG n b D x y f c v g e i :=
 ⟨k.get a.d (by simp),a.p.XD k,fun l j=>(a.q l j).XD k,a.r.XD k⟩
def dV(RS:List ip)(a:Nat):ip:=RS.getD a Qh
theorem wS(b:List ip)(a:Nat)(h:a<b.length):b[a]?=some (dV b a):=by
 unfold dV;rw[Tn,Tm h];rfl
def cK(RS:List ip)(a:Nat):Bool:=((dV RS a).XE==4)||((dV RS a).XE==5)
theorem At(z A:Value)(t:List (jO×Hd))(k:Xu)(u:Nat)(a:List ip)(l:Xu)(p:Nat)(w:World)(n:OG w i f z A t k u a l p)(v:H<a.length) :
  Calls prog 67 #[pointer (some ⟨i,0,none⟩),int i64 H] w fun e y=>e=returned (bool (cK a H))/\y=w:=by
 obtain⟨g,rfl,D,c⟩:=n.r H _ (wS a H v);have B:w.cell? ⟨g,H*6+1,none⟩=some (int i64 (dV a H).XE):=c 1 _ rfl;have C:w.cell? ⟨i,4,none⟩=some (slice (some ⟨g,0,none⟩) a.length p):=by rw[ah n.d];rfl
 have x:(H:Int)<a.length:=by omega
 have j:Xr (cK a H=(((dV a H).XE==4)||((dV a H).XE==5))):=rfl;generalize (dV a H).XE=s at *;clear n c;cases m:(s==4)
 ·cases q:(s==5)
  ·have b:Xr (cK a H=false):=(by show _=_;rw[j.o,m,q];rfl);go_enter func67,ntmps67;go_wp2;go_ret;exact⟨aF b.o.symm,rfl⟩
  ·have b:Xr (cK a H=true):=(by show _=_;rw[j.o,m,q];rfl);go_enter func67,ntmps67;go_wp2;go_ret;exact⟨aF b.o.symm,rfl⟩
 ·have b:Xr (cK a H=true):=by show _=_;rw[j.o,m];rfl
  go_enter func67,ntmps67;go_wp2;go_ret;exact⟨aF b.o.symm,rfl⟩
end Go.Proofs.YtnbhnocdhbcbcaaGreat

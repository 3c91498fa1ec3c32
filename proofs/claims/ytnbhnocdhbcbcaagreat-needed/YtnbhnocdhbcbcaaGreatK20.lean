import Derived.Deep.RegionLaw
import Derived.Test.YtnbhnocdhbcbcaaGreatK19
namespace Go.Proofs.YtnbhnocdhbcbcaaGreat
open Go.RowKit Tryz
open Value IntKind Ending
set_option maxHeartbeats 0
variable{w n:World}{b D v:Nat}{x y k:Value}{L:jP}{l d:Hd}{S:Sl}{I:List Sl}{T:Fs}{o:Bool}(i f H:Nat)
structure iq where
 XV:Xs
 XF:Int
 why:Int
 XZ:Xs
 X0:Int
 X3:Int
def lg(r:iq):List Value:=[string r.XV,int i64 r.XF,int i64 r.why,string r.XZ,int i64 r.X0,int i64 r.X3]
theorem yG(r:iq):(lg r).length=6:=rfl
def tq(T:List Tk)(S:List Sm)(a:Nat)(P:List dj)(l:Xs)(t:Tk)(M:List Xt):iq :=
 if(dQ P (P.length-1)==0)=false then⟨l,2,11,t.XZ,t.X0,t.X3⟩
 else if lu (bb T S a) (M.getD (P.length-1) [])=false then⟨l,2,12,t.XZ,t.X0,t.X3⟩ else⟨l,4,0,⟨#[]⟩,0,0⟩
def nZ(T:List Tk)(S:List Sm)(a:Nat)(P:List dj)(l:Xs)(t:Tk):Nat->Nat->List Xt->iq
 | 0,_,M=>tq T S a P l t M
 | n+1,i,M=>if((iD T S a P i M).2==0)=false then⟨l,2,(iD T S a P i M).2,(bN P i).XZ,(bN P i).X0,(bN P i).X3⟩ else nZ T S a P l t n (i+1) (M++[(iD T S a P i M).1])
def lA(T:List Tk)(S:List Sm)(a:Nat)(p:jP)(t:Tk):iq :=
 if(p.why==0)=false then⟨bS T (aq S a),2,p.why,p.XZ,p.X0,p.X3⟩
 else if 0<=ig p.st then⟨bS T (aq S a),3,p.why,(bN p.st (ig p.st).toNat).XZ,(bN p.st (ig p.st).toNat).X0,(bN p.st (ig p.st).toNat).X3⟩
 else nZ T S a p.st (bS T (aq S a)) t p.st.length 0 []
theorem ph{o p q:Value}(h:w.heap[b]?=some (.cells #[x,y,k,o,p,q] 38))(a c d e f g:Value) :
  (w.setCell ⟨b,0,none⟩ a).cell? ⟨b,0,none⟩=some a/\((w.setCell ⟨b,0,none⟩ a).setCell ⟨b,1,none⟩ c).cell? ⟨b,1,none⟩=some c/\(((w.setCell ⟨b,0,none⟩ a).setCell ⟨b,1,none⟩ c).setCell ⟨b,2,none⟩ d).cell? ⟨b,2,none⟩=some d/\((((w.setCell ⟨b,0,none⟩ a).setCell ⟨b,1,none⟩ c).setCell ⟨b,2,none⟩ d).setCell ⟨b,3,none⟩ e).cell? ⟨b,3,none⟩=some e /\
  (((((w.setCell ⟨b,0,none⟩ a).setCell ⟨b,1,none⟩ c).setCell ⟨b,2,none⟩ d).setCell ⟨b,3,none⟩ e).setCell ⟨b,4,none⟩ f).cell? ⟨b,4,none⟩=some f/\((((((w.setCell ⟨b,0,none⟩ a).setCell ⟨b,1,none⟩ c).setCell ⟨b,2,none⟩ d).setCell ⟨b,3,none⟩ e).setCell ⟨b,4,none⟩ f).setCell ⟨b,5,none⟩ g).cell? ⟨b,5,none⟩=some g:=by
 have i:=ab h 0 a;have j:=ab i 1 c;have l:=ab j 2 d;have m:=ab l 3 e;have n:=ab m 4 f;have r:=ab n 5 g;exact⟨by rw[ah i];rfl,by rw[ah j];rfl,by rw[ah l];rfl,by rw[ah m];rfl,by rw[ah n];rfl,by rw[ah r];rfl⟩
theorem fg{r:iq}(h:w.heap[b]?=some (.cells (lg r).toArray 38)) :
  (w.cell? ⟨b,0,none⟩=some (string r.XV)/\w.cell? ⟨b,1,none⟩=some (int i64 r.XF)/\w.cell? ⟨b,2,none⟩=some (int i64 r.why)/\w.cell? ⟨b,3,none⟩=some (string r.XZ)/\w.cell? ⟨b,4,none⟩=some (int i64 r.X0)/\w.cell? ⟨b,5,none⟩=some (int i64 r.X3)) /\
  (w.frozen? ⟨b,0,none⟩=false/\w.frozen? ⟨b,1,none⟩=false/\w.frozen? ⟨b,2,none⟩=false/\w.frozen? ⟨b,3,none⟩=false/\w.frozen? ⟨b,4,none⟩=false/\w.frozen? ⟨b,5,none⟩=false)/\b<w.heap.size:=by
 refine⟨⟨?_,?_,?_,?_,?_,?_⟩,⟨am h 0,am h 1,am h 2,am h 3,am h 4,am h 5⟩,aj h⟩
 all_goals (rw[ah h];rfl)
def Qi:iq:=⟨⟨#[]⟩,0,0,⟨#[]⟩,0,0⟩
def LZ(w:World)(r:iq)(e:Ending)(w':World):Prop:=e=returned (agg (lg r).toArray)/\ae [] w w'
structure LX(T:List Tk)(S:List Sm)(a:Nat)(p:jP):Prop where
 le:p.st.length<=100000000
 nd:ON p.st
 st:p.why=0->0<p.st.length/\∀i,i<p.st.length->(bN p.st i).ref≠-1->L9 T S a p.st i
structure CA(w wr:World)(p:jP)(hp:Hd)(r:iq):Prop where
 e:wr.heap[w.heap.size]?=some (.cells #[slice hp.ao p.st.length hp.cap,int i64 p.why,string p.XZ,int i64 p.X0,int i64 p.X3] 122)
 z:wr.heap[w.heap.size+1]?=some (.cells (lg Qi).toArray 38)
 r:wr.heap[w.heap.size+2]?=some (.cells (lg r).toArray 38)
 XR:ae [] w wr
theorem CA.XE{b:World}{r:iq}(a:CA w n L l r)(k:ae [] n b):CA w b L l r:=⟨k.get a.e (by simp),k.get a.z (by simp),k.get a.r (by simp),a.XR.trans k⟩
theorem CA.set{r r':iq}(a:CA w n L l r)(i:Nat)(v:Value)(h:(lg r).set i v=lg r'):CA w (n.setCell ⟨w.heap.size+2,i,none⟩ v) L l r':=by
 have k:ae [w.heap.size+2] n (n.setCell ⟨w.heap.size+2,i,none⟩ v):=(ae.refl _ _).sl1 _;refine⟨k.get a.e (by simp),k.get a.z (by simp),?_,a.XR.sr1 (by simp) _⟩;rw[ab a.r,<-h];simp
theorem CA.prf{r:iq}(a:CA w n L l r):n.cell? ⟨w.heap.size,0,none⟩=some (slice l.ao L.st.length l.cap)/\n.cell? ⟨w.heap.size,1,none⟩=some (int i64 L.why)/\n.cell? ⟨w.heap.size,2,none⟩=some (string L.XZ)/\n.cell? ⟨w.heap.size,3,none⟩=some (int i64 L.X0)/\n.cell? ⟨w.heap.size,4,none⟩=some (int i64 L.X3)/\w.heap.size<n.heap.size :=
 ⟨by rw[ah a.e];rfl,by rw[ah a.e];rfl,by rw[ah a.e];rfl,by rw[ah a.e];rfl,by rw[ah a.e];rfl,aj a.e⟩
theorem Sj(h:px w S):∃q o,S.ao=some ⟨q,o,none⟩/\q<w.heap.size:=by
 obtain⟨g,e,a,-⟩:=h.x 0 _ (ni S.L 0 h.pos);exact⟨g,0,e,a⟩
theorem N6(g:bq w n l d)(a:px w S)(j:∀q o,S.ao=some ⟨q,o,none⟩->l.XS≠some q):px n S:=by
 refine⟨⟨fun k x f=>?_,a.ok.nil,a.ok.le⟩,fun k x f=>?_,a.pos,a.le⟩
 ·obtain⟨q,o,e,b,c⟩:=a.ok.src k x f;exact⟨q,o,e,Tw b g.XR.size,by rw[TO (g.XR.block q b (fun i=>j q o e (aQ i)))];exact c⟩
 ·obtain⟨q,e,b,c⟩:=a.x k x f;exact⟨q,e,Tw b g.XR.size,by rw[TO (g.XR.block q b (fun i=>j q 0 e (aQ i)))];exact c⟩
theorem Ql(g:bq w n l d)(a:∀S∈I,px w S)(e:∀S∈I,∀q o,S.ao=some ⟨q,o,none⟩->l.XS≠some q)(b:px w S)(m:∀q o,S.ao=some ⟨q,o,none⟩->l.XS≠some q):∀t∈I++[S],px n t:=fun t c=>by
 rcases Ug.1 c with c | c
 ·exact N6 g (a t c) (e t c)
 ·rw[TI.1 c];exact N6 g b m
theorem OR(g:bq w n l d)(a:∀S∈I,px w S)(r:∀S∈I,∀q o,S.ao=some ⟨q,o,none⟩->l.XS≠some q)(b:px w S)(m:∀q o,S.ao=some ⟨q,o,none⟩->l.XS≠some q):∀t∈I++[S],∀q o,t.ao=some ⟨q,o,none⟩->d.XS≠some q:=fun t c q o e j=>by
 have f:px w t/\l.XS≠some q:=by
  rcases Ug.1 c with c | c
  ·exact⟨a t c,r t c q o e⟩
  ·rw[TI.1 c]at e ⊢;exact⟨b,m q o e⟩
 rcases g.XS with i | ⟨v,i,p⟩
 ·exact f.2 (by rw[<-i];exact j)
 ·rw[i]at j;cases j;obtain⟨x,u,k,s⟩:=Sj f.1;rw[e]at k;cases k
  omega
set_option maxRecDepth 100000
theorem Cj(T:List Tk)(ar:Xu)(cT:Nat)(S:List Sm)(ap:Xu)(cS:Nat)(p:jP)(hp:Hd)(w:World)(hD:gy w i T ar cT S ap cS)(ok:pA T S f)(hB:LS T S f)(cj:QQ T S f)(hn:f<S.length)(hE:dV T (aq S f).h)(ds:(aq S f).a<T.length)(dv:(aq S f).z=H+1)(d0:H<T.length)(hP:di w hp.ao 6 lI p.st)(a6:LX T S f p) :
  Calls prog 90 #[pointer (some ⟨i,0,none⟩),int i64 f,agg #[slice hp.ao p.st.length hp.cap,int i64 p.why,string p.XZ,int i64 p.X0,int i64 p.X3]] w fun e w'=>LZ w (lA T S f p (T.getD H gU)) e w':=by
 obtain⟨W,HW⟩:=bn (((w.alloc (.cells #[slice hp.ao p.st.length hp.cap,int i64 p.why,string p.XZ,int i64 p.X0,int i64 p.X3] 122)).alloc (.cells #[string ⟨#[]⟩,int i64 0,int i64 0,string ⟨#[]⟩,int i64 0,int i64 0] 38)).alloc (.cells #[string ⟨#[]⟩,int i64 2,int i64 p.why,string p.XZ,int i64 p.X0,int i64 p.X3] 38));have V0:CA w W p hp ⟨⟨#[]⟩,2,p.why,p.XZ,p.X0,p.X3⟩:=by
  obtain⟨W1,a3⟩:∃W1,W1=w.alloc (.cells #[slice hp.ao p.st.length hp.cap,int i64 p.why,string p.XZ,int i64 p.X0,int i64 p.X3] 122):=⟨_,rfl⟩
  obtain⟨W2,a4⟩:∃W2,W2=W1.alloc (.cells #[string ⟨#[]⟩,int i64 0,int i64 0,string ⟨#[]⟩,int i64 0,int i64 0] 38):=⟨_,rfl⟩
  have O:W1.heap.size=w.heap.size+1:=by rw[a3];simp
  have Q:W2.heap.size=w.heap.size+2:=by rw[a4];simp[O]
  have k0:=fI a3.symm;have k1:=fI a4.symm;have G:=f9 a3.symm;have I:W2.heap[w.heap.size+1]?=some (.cells (lg Qi).toArray 38):=by rw[a4,<-O];exact Tu _ _
  rw[<-HW.o,<-a3,<-a4];have k2:ae [] W2 (W2.alloc (.cells #[string ⟨#[]⟩,int i64 2,int i64 p.why,string p.XZ,int i64 p.X0,int i64 p.X3] 38)):=bR.alloc _;exact⟨k2.get (k1.get G (by simp)) (by simp),k2.get I (by simp),by rw[<-Q];exact Tu _ _,(k0.trans k1).trans k2⟩
 have a1:Xr _:=V0;have HD:Xr _:=hD;have cE:Xr _:=ok;have HP:Xr _:=hP;have d4:=ok.tm;have cy:Xr _:=hB;have cX:Xr _:=cj;have cH:Xr _:=hE;have a2:=a6.le;have bj:Xr _:=a6.nd;have bo:Xr _:=a6.st;have b4:Xr (Calls prog 88 #[pointer (some ⟨i,0,none⟩),int i64 f] W fun e w'=>e=returned (string (bS T (aq S f)))/\ae [] W w'):=by
  have:=rA i f T ar cT S ap cS W (hD.XE V0.XR) hn (by rw[bW S f hn];exact ds);rw[bW S f hn]at this;exact this
 have ac:Xr (lA T S f p (T.getD H gU)=if(p.why==0)=false then⟨bS T (aq S f),2,p.why,p.XZ,p.X0,p.X3⟩
  else if 0<=ig p.st then⟨bS T (aq S f),3,p.why,(bN p.st (ig p.st).toNat).XZ,(bN p.st (ig p.st).toNat).X0,(bN p.st (ig p.st).toNat).X3⟩
  else nZ T S f p.st (bS T (aq S f)) (T.getD H gU) p.st.length 0 []):=rfl
 have cb:Xr (∀F:World,ae [] w F->∃gT gs,ar=some ⟨gT,0,none⟩/\ap=some ⟨gs,0,none⟩/\gT<F.heap.size/\gs<F.heap.size/\i<F.heap.size/\F.cell? ⟨i,0,none⟩=some (slice ar T.length cT)/\F.cell? ⟨i,1,none⟩=some (slice ap S.length cS)/\F.cell? ⟨gs,f*4+1,none⟩=some (int i64 ((H:Int)+1))/\F.cell? ⟨gT,H*5+2,none⟩=some (string (T.getD H gU).XZ)/\F.cell? ⟨gT,H*5+3,none⟩=some (int i64 (T.getD H gU).X0)/\F.cell? ⟨gT,H*5+4,none⟩=some (int i64 (T.getD H gU).X3)):=fun F kx=>by
  have hd:=gy.XE HD.o kx;obtain⟨c0,c1,hb⟩:=hd.cells;obtain⟨gs,J,bw,-,q1,-,-⟩:=hd.s.2 f S[f] (Tn hn);rw[bW S f hn,dv,show((H+1:Nat):Int)=(H:Int)+1 by omega]at q1;obtain⟨gT,K,bv,-,-,t2,t3,t4⟩:=hd.t.2 H _ (jd T H d0);exact⟨gT,gs,K,J,bv,bw,hb,c0,c1,q1,t2,t3,t4⟩
 have bf:Xr (∀F,ae [] w F->Calls prog 131 #[agg #[slice hp.ao p.st.length hp.cap,int i64 p.why,string p.XZ,int i64 p.X0,int i64 p.X3]] F fun e w'=>e=returned (int i64 (ig p.st))/\ae [] F w'):=fun F kx=>JU p.st hp.ao hp.cap p.why p.XZ p.X0 p.X3 F (hP.XE kx) a2;have cl:=Fn p.st;obtain⟨iL,dp,ct,cu,cx⟩:=TZ Fp;clear hD ok hB cj hE hP a6 V0;obtain⟨l,Hl⟩:=bn (bS T (aq S f));rw[Hl.o]at b4 ac;obtain⟨V,c2⟩:=bn (lA T S f p (T.getD H gU));rw[c2.o]at ac ⊢;obtain⟨P,y,pf,pl,pc⟩:=p;simp only at ac bf cl a2 bj bo HP;obtain⟨G,I,m,J,K,Y⟩:=a1.o.prf;obtain⟨⟨n,u,B,C,D,E⟩,⟨Z,f1,f2,f3,f4,f5⟩,c⟩:=fg a1.o.r;obtain⟨⟨z0,O,Q,z3,z4,z5⟩,⟨y0,y1,y2,y3,y4,y5⟩,b⟩:=fg a1.o.z;simp only at n u B C D E;go_enter func90,ntmps90;go_upto_region 2 with fail
 rw[HW.o];go_upto_region 3 with (go_at_call 88;refine Ts b4.o ?_;rintro e w1 ⟨rfl,k1⟩;have V1:=a1.o.XE k1;obtain⟨⟨u0,-⟩,⟨u1,-⟩,u2⟩:=fg V1.r)
 have ag:Xr (CA w (w1.setCell ⟨w.heap.size+2,0,none⟩ (string l)) ⟨P,y,pf,pl,pc⟩ hp ⟨l,2,y,pf,pl,pc⟩):=V1.set 0 (string l) rfl;obtain⟨X2,cf⟩:=bn (w1.setCell ⟨w.heap.size+2,0,none⟩ (string l));rw[cf.o]at ag ⊢;clear V1 u0 u1 u2 k1 cf;clear G I m J K Y n u B C D E Z f1 f2 f3 f4 f5 c z0 O Q z3 z4 z5 y0 y1 y2 y3 y4 y5 b;obtain⟨G,I,m,J,K,Y⟩:=ag.o.prf;obtain⟨⟨n,u,B,C,D,E⟩,⟨Z,f1,f2,f3,f4,f5⟩,c⟩:=fg ag.o.r;obtain⟨⟨z0,O,Q,z3,z4,z5⟩,⟨y0,y1,y2,y3,y4,y5⟩,b⟩:=fg ag.o.z;simp only at n u B C D E;simp only at G I m J K;cases hy:(y==0)
 ·rw[hy,Tr rfl]at ac;have HX:Xr (V=⟨l,2,y,pf,pl,pc⟩):=ac.o;go_wp2;obtain⟨x0,x1,x2,x3,x4,x5⟩:=ph ag.o.z (string l) (int i64 2) (int i64 y) (string pf) (int i64 pl) (int i64 pc);exact Tz (v:=agg #[string l,int i64 2,int i64 y,string pf,int i64 pl,int i64 pc]) (by simp[results,results90,go_sem,x0,x1,x2,x3,x4,x5]) rfl ⟨by rw[HX.o];rfl,(((((ag.o.XR.sr1 (by simp) _).sr1 (by simp) _).sr1 (by simp) _).sr1 (by simp) _).sr1 (by simp) _).sr1 (by simp) _⟩
 ·rw[hy,Tp (by simp)]at ac;have dT:y=0:=by simpa using hy
  subst dT;have b3:Xr _:=bf.o X2 ag.o.XR;go_upto_region 6 with (go_at_call 131;refine Ts b3.o ?_;rintro e w3 ⟨rfl,k3⟩)
  have al:Xr _:=ag.o.XE k3;clear k3;clear G I m J K Y n u B C D E Z f1 f2 f3 f4 f5 c z0 O Q z3 z4 z5 y0 y1 y2 y3 y4 y5 b;obtain⟨G,I,m,J,K,Y⟩:=al.o.prf;obtain⟨⟨n,u,B,C,D,E⟩,⟨Z,f1,f2,f3,f4,f5⟩,c⟩:=fg al.o.r;obtain⟨⟨z0,O,Q,z3,z4,z5⟩,⟨y0,y1,y2,y3,y4,y5⟩,b⟩:=fg al.o.z;simp only at n u B C D E;simp only at G I m J K;rcases cl with ⟨hh,co⟩ | ⟨k,hk,hh⟩
  ·rw[hh,Tp (by omega)]at ac;rw[hh];obtain⟨d3,cs⟩:=bo.o (by trivial);have cV:Xr (∀j,j<P.length->L9 T S f P j):=fun j hi=>cs j hi (co j hi);have cA:Xr (ip w3 w3 ⟨none,0⟩ (l5 [])):=⟨Ty _ _ _ _,(by intro k hk;cases hk),ae.refl _ _⟩;have ba:Xr (nZ T S f P l (T.getD H gU) (P.length-0) 0 (([]:List Sl).map (·.L))=V):=ac.o.symm;obtain⟨tz,c9⟩:=bn (T.getD H gU);rw[c9.o]at cb ba;clear cs co hh ac bo bf b3;go_wp2;clear G I m J K Y n u B C D E Z f1 f2 f3 f4 f5 c z0 O Q z3 z4 z5 y0 y1 y2 y3 y4 y5 b
   go_loopg [9,10] P.length (fun g o iv wr=>∃(j:Nat) (h:Hd) (A:List Sl),j<=P.length/\g=P.length-j/\o=slice h.ao A.length h.cap/\iv=int i64 j/\Xr (A.length=j)/\Xr (∀s∈A,px wr s)/\Xr (∀s∈A,∀q o,s.ao=some ⟨q,o,none⟩->h.XS≠some q)/\Xr (nZ T S f P l tz (P.length-j) j (A.map (·.L))=V)/\Xr (ip w3 wr h (l5 A)))
   ·exact⟨0,⟨none,0⟩,[],by omega,rfl,rfl,rfl,rfl,(fun s hs=>by cases hs),(fun s hs=>by cases hs),ba,cA⟩
   obtain⟨j,h,A,hi,hg,rfl,rfl,av,bd,be,HG,ax⟩:=hrel;have an:Xr _:=al.o.XE ax.o.XR;have a0:Xr _:=an.o.XR;obtain⟨G,I,m,J,K,Y⟩:=an.o.prf;obtain⟨⟨n,u,B,C,D,E⟩,⟨Z,f1,f2,f3,f4,f5⟩,c⟩:=fg an.o.r;obtain⟨⟨z0,O,Q,z3,z4,z5⟩,⟨y0,y1,y2,y3,y4,y5⟩,b⟩:=fg an.o.z;simp only at n u B C D E;simp only at G I m J K;rcases kn j P.length with ⟨aT,d5⟩ | ⟨aT,-⟩
   ·have bl:Xr _:=Lh i f j T ar cT S ap cS P hp.ao hp.cap 0 pf pl pc A h.ao h.cap wr (gy.XE HD.o a0.o) cE.o cy.o cX.o hn (di.XE HP.o a0.o) a2 bj.o aT (cV.o j aT) (ax.o.X9.srcG wU) bd.o av.o;obtain⟨d,hd⟩:∃d,P.length-j=d+1:=⟨P.length-j-1,by omega⟩
    have af:Xr (nZ T S f P l tz (d+1) j (A.map (·.L))=V):=(by rw[<-hd];exact HG);rw[nZ]at af;have c7:Xr (P.length-(j+1)=d):=ci (by omega);clear hd HG;obtain⟨SR,cR⟩:=bn (iD T S f P j (A.map (·.L)));rw[cR.o]at bl af;obtain⟨sE,sW⟩:=SR;simp only at af;(go_upto_region 15 with (go_at_call 132;refine Ts bl.o ?_;rintro e w4 ⟨s,rfl,cq,bc,cr,k4⟩));have R:Xr _:=an.o.XE k4;have cc:Xr _:=ax.o.XE k4;have a7:Xr (∀s∈A,px w4 s):=fun s hs=>(bd.o s hs).XE k4;have ca:Xr (s.L=sE):=cq;have cL:Xr ((sW==0)=true->px w4 s):=bc;have b6:Xr (∀q o,s.ao=some ⟨q,o,none⟩->h.XS≠some q):=fun q o e hb=>by
     rcases cr with hm | hf
     ·exact be.o s hm q o e hb
     ·have:=hf q o e;have:=ax.o.X9.lt hb;omega
    clear cq bc cr k4 bl;clear G I m J K Y n u B C D E Z f1 f2 f3 f4 f5 c z0 O Q z3 z4 z5 y0 y1 y2 y3 y4 y5 b;obtain⟨G,I,m,J,K,Y⟩:=R.o.prf;obtain⟨⟨n,u,B,C,D,E⟩,⟨Z,f1,f2,f3,f4,f5⟩,c⟩:=fg R.o.r;obtain⟨⟨z0,O,Q,z3,z4,z5⟩,⟨y0,y1,y2,y3,y4,y5⟩,b⟩:=fg R.o.z;simp only at n u B C D E;simp only at G I m J K;cases hw:(sW==0)
    ·rw[hw,Tr rfl]at af;have HX:Xr (V=⟨l,2,sW,(bN P j).XZ,(bN P j).X0,(bN P j).X3⟩):=af.o.symm;obtain⟨gP,az,aS,-,-,-,q3,q4,q5⟩:=di.step (di.XE HP.o R.o.XR) j aT;have HQ:Xr (∀F:World,ae [] w F->gP<F.heap.size/\F.cell? ⟨gP,j*6+3,none⟩=some (string (bN P j).XZ)/\F.cell? ⟨gP,j*6+4,none⟩=some (int i64 (bN P j).X0)/\F.cell? ⟨gP,j*6+5,none⟩=some (int i64 (bN P j).X3)):=fun F kx=>by
      obtain⟨g2,m,h2,-,-,-,c3,c4,c5⟩:=di.step (di.XE HP.o kx) j aT;rw[az]at m;cases m
      exact⟨h2,c3,c4,c5⟩
     generalize (bN P j).XZ=sf at *;generalize (bN P j).X0=sl at *;generalize (bN P j).X3=sc at *;clear aS q3 q4 q5;(go_upto_region 17 with fail);have M:Xr (CA w (w4.setCell ⟨w.heap.size+2,2,none⟩ (int i64 sW)) ⟨P,0,pf,pl,pc⟩ hp ⟨l,2,sW,pf,pl,pc⟩):=R.o.set 2 (int i64 sW) rfl;obtain⟨X4,bp⟩:=bn (w4.setCell ⟨w.heap.size+2,2,none⟩ (int i64 sW));rw[bp.o]at M ⊢;clear G I m J K Y n u B C D E Z f1 f2 f3 f4 f5 c z0 O Q z3 z4 z5 y0 y1 y2 y3 y4 y5 b;obtain⟨G,I,m,J,K,Y⟩:=M.o.prf;obtain⟨⟨n,u,B,C,D,E⟩,⟨Z,f1,f2,f3,f4,f5⟩,c⟩:=fg M.o.r;obtain⟨⟨z0,O,Q,z3,z4,z5⟩,⟨y0,y1,y2,y3,y4,y5⟩,b⟩:=fg M.o.z;simp only at n u B C D E;simp only at G I m J K;obtain⟨aS,q3,q4,q5⟩:=HQ.o X4 M.o.XR;rw[az]at G;(go_upto_region 18 with fail);have U:Xr (CA w (((X4.setCell ⟨w.heap.size+2,3,none⟩ (string sf)).setCell ⟨w.heap.size+2,4,none⟩ (int i64 sl)).setCell ⟨w.heap.size+2,5,none⟩ (int i64 sc)) ⟨P,0,pf,pl,pc⟩ hp ⟨l,2,sW,sf,sl,sc⟩):=((M.o.set (r':=⟨l,2,sW,sf,pl,pc⟩) 3 (string sf) rfl).set (r':=⟨l,2,sW,sf,sl,pc⟩) 4 (int i64 sl) rfl).set 5 (int i64 sc) rfl;obtain⟨X5,br⟩:=bn (((X4.setCell ⟨w.heap.size+2,3,none⟩ (string sf)).setCell ⟨w.heap.size+2,4,none⟩ (int i64 sl)).setCell ⟨w.heap.size+2,5,none⟩ (int i64 sc));rw[br.o]at U ⊢;clear G I m J K Y n u B C D E Z f1 f2 f3 f4 f5 c z0 O Q z3 z4 z5 y0 y1 y2 y3 y4 y5 b;obtain⟨G,I,m,J,K,Y⟩:=U.o.prf;obtain⟨⟨n,u,B,C,D,E⟩,⟨Z,f1,f2,f3,f4,f5⟩,c⟩:=fg U.o.r;obtain⟨⟨z0,O,Q,z3,z4,z5⟩,⟨y0,y1,y2,y3,y4,y5⟩,b⟩:=fg U.o.z;simp only at n u B C D E;go_wp2;obtain⟨x0,x1,x2,x3,x4,x5⟩:=ph U.o.z (string l) (int i64 2) (int i64 sW) (string sf) (int i64 sl) (int i64 sc);exact Tz (v:=agg #[string l,int i64 2,int i64 sW,string sf,int i64 sl,int i64 sc]) (by simp[results,results90,go_sem,x0,x1,x2,x3,x4,x5]) rfl ⟨by rw[HX.o];rfl,(((((U.o.XR.sr1 (by simp) _).sr1 (by simp) _).sr1 (by simp) _).sr1 (by simp) _).sr1 (by simp) _).sr1 (by simp) _⟩
    ·rw[hw,Tp (by simp)]at af;have dz:sW=0:=(by simpa using hw);subst dz;have b5:Xr _:=cL.o rfl;rw[<-ca.o]at af;have cB:Xr (([slice s.ao sE.length s.cap]:List Value)=Gr s):=ci (by unfold Gr;rw[ca.o]);have df:=cc.o.X9;have cF:Xr ((l5 A).n<=900000000):=by show A.length<=_;rw[av.o];omega
     go_wp2_with (at_builtin;refine cD _ rfl (.tmp 71) (.tmp 73) 218 rfl iL (slice none 0 0) 24 h (l5 A) [slice s.ao sE.length s.cap] underlying218 dp ct cu cx rfl TR rfl df cF.o (by omega) rfl rfl (by simp[Value.oneCell']) ?_;intro h7 w7 bx a5;rw[cB.o,rJ]at bx;have cz:Xr _:=cc.o.XO a5 bx;have bz:Xr _:=Ql a5 a7.o be.o b5.o b6.o;have bT:Xr _:=OR a5 a7.o be.o b5.o b6.o;clear bx a5);go_roundg (P.length-(j+1))
     ·exact⟨j+1,h7,A++[s],by omega,rfl,by simp[l5,lG],by go_num,by show _=_;rw[Tv,av.o];rfl,bz,bT,by rw[c7.o,Uh];exact af,cz⟩
     omega
   ·obtain⟨q,hq⟩:∃q,P.length=q+1:=⟨P.length-1,by omega⟩
    have d1:¬(j:Int)<P.length:=(by omega);have ea:IntKind.i64.wrap ((P.length:Int)-1)=(q:Int):=(by rw[UX];omega);have af:Xr (tq T S f P l tz (A.map (·.L))=V):=(by have:=HG.o;rw[show P.length-j=0 by omega,nZ]at this;exact this);have ad:Xr (tq T S f P l tz (A.map (·.L))=if(dQ P q==0)=false then⟨l,2,11,tz.XZ,tz.X0,tz.X3⟩ else if lu (bb T S f) (gQ A q).L=false then⟨l,2,12,tz.XZ,tz.X0,tz.X3⟩ else⟨l,4,0,⟨#[]⟩,0,0⟩):=ci (by unfold tq;rw[show P.length-1=q by omega,xV A q (by rw[av.o];omega)]);have cp:q<A.length:=(by rw[av.o];omega);have d2:(q:Int)<A.length:=(by omega);have dt:q<P.length:=(by omega);have d9:(0:Int)<=(q:Int):=(by omega);clear hq HG;rw[af.o]at ad;have b2:Xr _:=(uS P hp.ao hp.cap 0 pf pl pc a2 bj.o (q+1) q wr (by omega) dt (di.XE HP.o a0.o));generalize dQ P q=bg at *;have b1:Xr (∀F,ae [] w F->Calls prog 73 #[pointer (some ⟨i,0,none⟩),int i64 (f:Int)] F fun e w'=>∃h',e=returned (slice h'.ao (bb T S f).length h'.cap)/\zD F w' h' (bb T S f)):=fun F kx=>by
     have:=mq i f T ar cT S ap cS F (gy.XE HD.o kx) hn (by omega) (by rw[bW S f hn];exact cH.o);rw[bW S f hn]at this;exact this
    have dg:(bb T S f).length<=T.length:=lT T _;obtain⟨X,c6⟩:=bn (bb T S f);rw[c6.o]at b1 dg ad;(go_upto_region 22 with (go_at_call 133;refine Ts b2.o ?_;rintro e w4 ⟨rfl,k4⟩));have b0:Xr _:=b1.o w4 (a0.o.trans k4);(go_upto_region 23 with (go_at_call 73;refine Ts b0.o ?_;rintro e w5 ⟨h5,rfl,x5⟩));have k5:=k4.trans x5.XR;have M:Xr _:=an.o.XE k5;obtain⟨gA,dc,dl,db⟩:=di.sl ((ax.o.XE k5).X9.srcG wU) q cp;have cP:Xr _:=(bd.o (gQ A q) (ko A q cp)).XE k5;have bk:Xr _:=(Eg X (gQ A q).L h5.ao (gQ A q).ao h5.cap (gQ A q).cap w5 x5.X9.srcX cP.o.x (by omega));generalize gQ A q=s at *;obtain⟨sm,c8⟩:=bn (lu X s.L);rw[c8.o]at bk ad;rw[dc];clear k4 k5 x5 b0 b2;clear G I m J K Y n u B C D E Z f1 f2 f3 f4 f5 c z0 O Q z3 z4 z5 y0 y1 y2 y3 y4 y5 b;(go_upto_region 24 with (go_at_call 134;refine Ts bk.o ?_;rintro e w6 ⟨rfl,k6⟩));have U:Xr _:=M.o.XE k6;clear k6 db dl bk;obtain⟨G,I,m,J,K,Y⟩:=U.o.prf;obtain⟨⟨n,u,B,C,D,E⟩,⟨Z,f1,f2,f3,f4,f5⟩,c⟩:=fg U.o.r;obtain⟨⟨z0,O,Q,z3,z4,z5⟩,⟨y0,y1,y2,y3,y4,y5⟩,b⟩:=fg U.o.z;simp only at n u B C D E;simp only at G I m J K;obtain⟨gT,gs,rfl,rfl,bv,bw,dk,c0,c1,q1,t2,t3,t4⟩:=cb.o w6 U.o.XR;have d8:(f:Int)<S.length:=(by omega);have eb:(H:Int)<T.length:=(by omega);obtain⟨ts,tr,tf,tl,tc⟩:=tz;simp only at t2 t3 t4 ad;have ai:Xr (CA w (((w6.setCell ⟨w.heap.size+2,3,none⟩ (string tf)).setCell ⟨w.heap.size+2,4,none⟩ (int i64 tl)).setCell ⟨w.heap.size+2,5,none⟩ (int i64 tc)).drew ⟨P,0,pf,pl,pc⟩ hp ⟨l,2,0,tf,tl,tc⟩):=(((U.o.set (r':=⟨l,2,0,tf,pl,pc⟩) 3 (string tf) rfl).set (r':=⟨l,2,0,tf,tl,pc⟩) 4 (int i64 tl) rfl).set (r':=⟨l,2,0,tf,tl,tc⟩) 5 (int i64 tc) rfl).XE bR.drew;go_region;obtain⟨X7,ch⟩:=bn ((((w6.setCell ⟨w.heap.size+2,3,none⟩ (string tf)).setCell ⟨w.heap.size+2,4,none⟩ (int i64 tl)).setCell ⟨w.heap.size+2,5,none⟩ (int i64 tc)).drew);rw[ch.o]at ai ⊢;clear G I m J K Y n u B C D E Z f1 f2 f3 f4 f5 c z0 O Q z3 z4 z5 y0 y1 y2 y3 y4 y5 b;clear bv bw dk c0 c1 q1 t2 t3 t4 ch;obtain⟨G,I,m,J,K,Y⟩:=ai.o.prf;obtain⟨⟨n,u,B,C,D,E⟩,⟨Z,f1,f2,f3,f4,f5⟩,c⟩:=fg ai.o.r;obtain⟨⟨z0,O,Q,z3,z4,z5⟩,⟨y0,y1,y2,y3,y4,y5⟩,b⟩:=fg ai.o.z;simp only at n u B C D E;simp only at G I m J K;cases ck:(bg==0)
    ·rw[ck,Tr rfl]at ad;have HX:Xr (V=⟨l,2,11,tf,tl,tc⟩):=ad.o;(go_upto_region 27 with fail);have N:Xr (CA w (X7.setCell ⟨w.heap.size+2,2,none⟩ (int i64 11)) ⟨P,0,pf,pl,pc⟩ hp ⟨l,2,11,tf,tl,tc⟩):=ai.o.set 2 (int i64 11) rfl;obtain⟨X8,bs⟩:=bn (X7.setCell ⟨w.heap.size+2,2,none⟩ (int i64 11));rw[bs.o]at N ⊢;clear G I m J K Y n u B C D E Z f1 f2 f3 f4 f5 c z0 O Q z3 z4 z5 y0 y1 y2 y3 y4 y5 b;obtain⟨G,I,m,J,K,Y⟩:=N.o.prf;obtain⟨⟨n,u,B,C,D,E⟩,⟨Z,f1,f2,f3,f4,f5⟩,c⟩:=fg N.o.r;obtain⟨⟨z0,O,Q,z3,z4,z5⟩,⟨y0,y1,y2,y3,y4,y5⟩,b⟩:=fg N.o.z;simp only at n u B C D E;go_wp2;obtain⟨x0,x1,x2,x3,x4,x5⟩:=ph N.o.z (string l) (int i64 2) (int i64 11) (string tf) (int i64 tl) (int i64 tc);exact Tz (v:=agg #[string l,int i64 2,int i64 11,string tf,int i64 tl,int i64 tc]) (by simp[results,results90,go_sem,x0,x1,x2,x3,x4,x5]) rfl ⟨by rw[HX.o];rfl,(((((N.o.XR.sr1 (by simp) _).sr1 (by simp) _).sr1 (by simp) _).sr1 (by simp) _).sr1 (by simp) _).sr1 (by simp) _⟩
    ·rw[ck,Tp (by simp)]at ad;cases sm
     ·rw[Tr rfl]at ad;have HX:Xr (V=⟨l,2,12,tf,tl,tc⟩):=ad.o;(go_upto_region 30 with fail);have N:Xr (CA w (X7.setCell ⟨w.heap.size+2,2,none⟩ (int i64 12)) ⟨P,0,pf,pl,pc⟩ hp ⟨l,2,12,tf,tl,tc⟩):=ai.o.set 2 (int i64 12) rfl;obtain⟨X8,bs⟩:=bn (X7.setCell ⟨w.heap.size+2,2,none⟩ (int i64 12));rw[bs.o]at N ⊢;clear G I m J K Y n u B C D E Z f1 f2 f3 f4 f5 c z0 O Q z3 z4 z5 y0 y1 y2 y3 y4 y5 b;obtain⟨G,I,m,J,K,Y⟩:=N.o.prf;obtain⟨⟨n,u,B,C,D,E⟩,⟨Z,f1,f2,f3,f4,f5⟩,c⟩:=fg N.o.r;obtain⟨⟨z0,O,Q,z3,z4,z5⟩,⟨y0,y1,y2,y3,y4,y5⟩,b⟩:=fg N.o.z;simp only at n u B C D E;go_wp2;obtain⟨x0,x1,x2,x3,x4,x5⟩:=ph N.o.z (string l) (int i64 2) (int i64 12) (string tf) (int i64 tl) (int i64 tc);exact Tz (v:=agg #[string l,int i64 2,int i64 12,string tf,int i64 tl,int i64 tc]) (by simp[results,results90,go_sem,x0,x1,x2,x3,x4,x5]) rfl ⟨by rw[HX.o];rfl,(((((N.o.XR.sr1 (by simp) _).sr1 (by simp) _).sr1 (by simp) _).sr1 (by simp) _).sr1 (by simp) _).sr1 (by simp) _⟩
     ·rw[Tp (by simp)]at ad;have HX:Xr (V=⟨l,4,0,⟨#[]⟩,0,0⟩):=ad.o;go_wp2;obtain⟨x0,x1,x2,x3,x4,x5⟩:=ph ai.o.z (string l) (int i64 4) (int i64 0) (string ⟨#[]⟩) (int i64 0) (int i64 0);exact Tz (v:=agg #[string l,int i64 4,int i64 0,string ⟨#[]⟩,int i64 0,int i64 0]) (by simp[results,results90,go_sem,x0,x1,x2,x3,x4,x5]) rfl ⟨by rw[HX.o];rfl,(((((ai.o.XR.sr1 (by simp) _).sr1 (by simp) _).sr1 (by simp) _).sr1 (by simp) _).sr1 (by simp) _).sr1 (by simp) _⟩
  ·rw[hh,Tr (by omega),Ur]at ac;rw[hh];have d6:(0:Int)<=(k:Int):=by omega
   have d7:(k:Int)<P.length:=(by omega);have HX:Xr (V=⟨l,3,0,(bN P k).XZ,(bN P k).X0,(bN P k).X3⟩):=ac.o;obtain⟨gP,az,aS,-,-,-,q3,q4,q5⟩:=di.step (di.XE HP.o al.o.XR) k hk;have HQ:Xr (∀F:World,ae [] w F->gP<F.heap.size/\F.cell? ⟨gP,k*6+3,none⟩=some (string (bN P k).XZ)/\F.cell? ⟨gP,k*6+4,none⟩=some (int i64 (bN P k).X0)/\F.cell? ⟨gP,k*6+5,none⟩=some (int i64 (bN P k).X3)):=fun F kx=>by
    obtain⟨g2,m,h2,-,-,-,c3,c4,c5⟩:=di.step (di.XE HP.o kx) k hk;rw[az]at m;cases m
    exact⟨h2,c3,c4,c5⟩
   generalize (bN P k).XZ=sf at *;generalize (bN P k).X0=sl at *;generalize (bN P k).X3=sc at *;clear aS q3 q4 q5;(go_upto_region 8 with fail);have R:Xr (CA w (w3.setCell ⟨w.heap.size+2,1,none⟩ (int i64 3)) ⟨P,0,pf,pl,pc⟩ hp ⟨l,3,0,pf,pl,pc⟩):=al.o.set 1 (int i64 3) rfl;obtain⟨X4,bp⟩:=bn (w3.setCell ⟨w.heap.size+2,1,none⟩ (int i64 3));rw[bp.o]at R ⊢;clear G I m J K Y n u B C D E Z f1 f2 f3 f4 f5 c z0 O Q z3 z4 z5 y0 y1 y2 y3 y4 y5 b;obtain⟨G,I,m,J,K,Y⟩:=R.o.prf;obtain⟨⟨n,u,B,C,D,E⟩,⟨Z,f1,f2,f3,f4,f5⟩,c⟩:=fg R.o.r;obtain⟨⟨z0,O,Q,z3,z4,z5⟩,⟨y0,y1,y2,y3,y4,y5⟩,b⟩:=fg R.o.z;simp only at n u B C D E;simp only at G I m J K;obtain⟨aS,q3,q4,q5⟩:=HQ.o X4 R.o.XR;rw[az]at G;(go_upto_region 9 with fail);have M:Xr (CA w (((X4.setCell ⟨w.heap.size+2,3,none⟩ (string sf)).setCell ⟨w.heap.size+2,4,none⟩ (int i64 sl)).setCell ⟨w.heap.size+2,5,none⟩ (int i64 sc)) ⟨P,0,pf,pl,pc⟩ hp ⟨l,3,0,sf,sl,sc⟩):=((R.o.set (r':=⟨l,3,0,sf,pl,pc⟩) 3 (string sf) rfl).set (r':=⟨l,3,0,sf,sl,pc⟩) 4 (int i64 sl) rfl).set 5 (int i64 sc) rfl;obtain⟨X5,br⟩:=bn (((X4.setCell ⟨w.heap.size+2,3,none⟩ (string sf)).setCell ⟨w.heap.size+2,4,none⟩ (int i64 sl)).setCell ⟨w.heap.size+2,5,none⟩ (int i64 sc));rw[br.o]at M ⊢;clear G I m J K Y n u B C D E Z f1 f2 f3 f4 f5 c z0 O Q z3 z4 z5 y0 y1 y2 y3 y4 y5 b;obtain⟨G,I,m,J,K,Y⟩:=M.o.prf;obtain⟨⟨n,u,B,C,D,E⟩,⟨Z,f1,f2,f3,f4,f5⟩,c⟩:=fg M.o.r;obtain⟨⟨z0,O,Q,z3,z4,z5⟩,⟨y0,y1,y2,y3,y4,y5⟩,b⟩:=fg M.o.z;simp only at n u B C D E;go_wp2;obtain⟨x0,x1,x2,x3,x4,x5⟩:=ph M.o.z (string l) (int i64 3) (int i64 0) (string sf) (int i64 sl) (int i64 sc);exact Tz (v:=agg #[string l,int i64 3,int i64 0,string sf,int i64 sl,int i64 sc]) (by simp[results,results90,go_sem,x0,x1,x2,x3,x4,x5]) rfl ⟨by rw[HX.o];rfl,(((((M.o.XR.sr1 (by simp) _).sr1 (by simp) _).sr1 (by simp) _).sr1 (by simp) _).sr1 (by simp) _).sr1 (by simp) _⟩
structure gC(w:World)(v:Nat)(fs:Fs)(h:Hd)(on:Bool)(p2 p3 p4:Value):Prop where
 d:w.heap[v]?=some (.cells #[slice h.ao fs.length h.cap,bool on,p2,p3,p4] 85)
 X9:aB w h (cY fs)
 far:h.XS≠some v
 le:fs.length<=4
theorem gC.XE(a:gC w b T l o x y k)(c:ae [] w n):gC n b T l o x y k :=
 ⟨c.get a.d (by simp),a.X9.XE c,a.far,a.le⟩
theorem gC.keptS{S:Xv}(a:gC w b T l o x y k)(e:ae S w n)(g:b∉S)(f:∀q,l.XS=some q->q∉S):gC n b T l o x y k :=
 ⟨e.get a.d g,a.X9.XJ (fun q c=>e.block q (a.X9.lt c) (f q c)),a.far,a.le⟩
theorem aB.putAt{r:eR}(o:aB w l r)(d:l.ao=some ⟨b,0,none⟩)(j:Nat)(v:Value):aB (w.setCell ⟨b,j,none⟩ v) l ⟨r.e,r.size,r.n,r.xs.set j v⟩:=by
 refine⟨by rw[Um];exact o.1,?_⟩;rcases o.2 with ⟨g,y⟩ | ⟨x,f,a,g,s,t,k,m,p,q⟩
 ·injection g with c
  rw[c]at d;cases d
 ·injection g with c u i
  rw[c]at d;cases d
  refine TE ⟨b,f,a.setIfInBounds j v,by rw[c,i],s,by rw[ab t],k,m,by rw[Array.size_setIfInBounds];exact p,?_⟩;rw[Wd]
  show(a.toList.set j v).take (r.n*r.size)=r.xs.set j v
  rw[<-q,Xg]
theorem aB.srcFi(o:aB w l (cY T)):oc w l.ao l.cap T:=by
 refine⟨?_,fun k m=>?_⟩
 ·rcases o.XP with ⟨e,b,_⟩ | ⟨g,c,n,p,d,-⟩
  ·have b:T.length=0:=b;omega
  ·exact d
 ·obtain⟨g,a,j,-⟩:=rD o (show 0<T.length by omega);obtain⟨f,i⟩:=xB T k m;exact⟨g,a,j,o.cell a (k*2) _ f,o.cell a (k*2+1) _ i⟩
set_option maxRecDepth 512
theorem Kl(w:World) :
  Calls prog 29 #[] w fun e a=>e=returned (pointer (some ⟨w.heap.size,0,none⟩))/\gC a w.heap.size [] ⟨none,0⟩ false (pointer none) (slice none 0 0) (slice none 0 0)/\ae [] w a:=by
 have b:Xr (gC (w.alloc (.cells #[slice none 0 0,bool false,pointer none,slice none 0 0,slice none 0 0] 85)) w.heap.size [] ⟨none,0⟩ false (pointer none) (slice none 0 0) (slice none 0 0)):=⟨Tu _ _,Ty _ _ _ _,(by intro e;cases e),by simp⟩;go_enter func29,ntmps29;go_wp2;go_ret;exact⟨rfl,b.o,bR.alloc _⟩
def R4(w:World)(v:Nat)(fs:Fs)(h:Hd)(n d:Xs)(p2 p3 p4:Value)(e:Ending)(w':World):Prop :=
 e=returned (int i64 (fJ fs n d).1)/\((fJ fs n d).1=0->∃h',gC w' v (fJ fs n d).2 h' false p2 p3 p4/\zb w w' v h h')/\((fJ fs n d).1≠0->ae [] w w')
theorem gC.off(a:gC w b T l o x y k):gC (w.setCell ⟨b,1,none⟩ (bool false)) b T l false x y k:=by
 have f:ae [b] w (w.setCell ⟨b,1,none⟩ (bool false)):=(ae.refl _ _).sl1 _;exact⟨by rw[ab a.d];rfl,a.X9.XJ (fun q c=>f.block q (a.X9.lt c) (by simp;intro e;exact a.far (by rw[<-e];exact c))),a.far,a.le⟩
theorem zb.set(r:zb w n b l d)(i:Nat)(u:Value):zb w (n.setCell ⟨b,i,none⟩ u) b l d:=⟨r.XR.sl1 _,r.XS⟩
theorem gC.grown{c:Fs}(a:gC w b T l o x y k)(g:bq w n l d)(j:aB n d (cY c))(r:c.length<=4){m:Nat}(s:m=c.length):gC (n.setCell ⟨b,0,none⟩ (slice d.ao m d.cap)) b c d o x y k:=by
 have p:=g.XR.get a.d (fun i=>a.far (aQ i));have v:=aj a.d;have f:d.XS≠some b:=by
  rcases g.XS with e | ⟨q,e,i⟩
  ·rw[e];exact a.far
  ·rw[e];intro u;cases u;omega
 have t:ae [b] n (n.setCell ⟨b,0,none⟩ (slice d.ao m d.cap)):=(ae.refl _ _).sl1 _;subst s;exact⟨by rw[ab p];rfl,j.XJ (fun q i=>t.block q (j.lt i) (by simp;intro e;exact f (by rw[<-e];exact i))),f,r⟩
theorem gC.wrote(a:gC w b T l o x y k)(c:l.ao=some ⟨D,0,none⟩)(g:v<T.length)(n d:Xs):gC ((w.setCell ⟨D,v*2,none⟩ (string n)).setCell ⟨D,v*2+1,none⟩ (string d)).drew b (T.set v (n,d)) l o x y k:=by
 have f:l.XS=some D:=by unfold Hd.XS;rw[c];rfl
 have i:ae [D] w ((w.setCell ⟨D,v*2,none⟩ (string n)).setCell ⟨D,v*2+1,none⟩ (string d)).drew:=(((ae.refl _ _).sl1 _).sl1 _).drew;have j:aB ((w.setCell ⟨D,v*2,none⟩ (string n)).setCell ⟨D,v*2+1,none⟩ (string d)) l (cY (T.set v (n,d))):=by
  have:=(a.X9.putAt c (v*2) (string n)).putAt c (v*2+1) (string d);have e:(⟨(cY T).e,(cY T).size,(cY T).n,((cY T).xs.set (v*2) (string n)).set (v*2+1) (string d)⟩:eR)=cY (T.set v (n,d)):=by
   simp only[cY,List.length_set];rw[Il T v n d g]
  rw[e]at this;exact this
 refine⟨?_,j.XE bR.drew,a.far,by rw[Um];exact a.le⟩;rw[Um];exact i.get a.d (by simp;intro e;exact a.far (by rw[f,e]))
set_option maxRecDepth 100000
theorem Kz(b:Fs)(h:Hd)(R:Bool)(p2 p3 p4:Value)(n d:Xs)(w:World)(U:gC w H b h R p2 p3 p4)(hn:n.size<=1073741824)(hd:d.size<=4294967296) :
  Calls prog 16 #[pointer (some ⟨H,0,none⟩),string n,string d] w fun e w'=>R4 w H b h n d p2 p3 p4 e w':=by
 have F:Xr (Calls prog 35 #[string n,string d] w fun e w'=>e=returned (int i64 (dq n d))/\w'=w):=C7 n d w hn hd;cases J:(dq n d==0)
 ·have r:Xr (fJ b n d=(dq n d,b)):=by show _=_;unfold fJ;rw[Tr (by simpa using J)]
  generalize dq n d=c at *;go_enter func16,ntmps16;go_wp2_with (go_at_call 35;refine Ts F.o ?_;rintro e E ⟨rfl,a⟩;rw[a];clear a);go_ret;exact⟨by rw[r.o];rfl,by rw[r.o];exact⟨(fun q=>by rw[show c=0 from q]at J;cases J),fun _=>ae.refl _ _⟩⟩
 ·have l:dq n d=0:=by simpa using J
  rw[l]at F;obtain⟨W,G⟩:=bn (w.alloc (.cells #[string n,string d] 68));have kW:=fI G.o;have BW:=f9 G.o;have s:=U.XE kW;have f:Xr _:=s;have O:W.cell? ⟨H,0,none⟩=some (slice h.ao b.length h.cap):=by rw[ah s.d];rfl
  have z0:=aj s.d;obtain⟨b0,b1⟩:=Ba BW;have z:Xr _:=kW;have V:=U.le;have i:Xr _:=(ny b h.ao h.cap n W (by omega) s.X9.srcFi);clear s U kW BW J;obtain⟨m,B⟩:=bn (b.length);rw[B.o]at O i V;rcases qC n b with x | ⟨k,L,x⟩
  ·rw[x]at i;by_cases hl:m=4
   ·have r:Xr (fJ b n d=(1,b)):=(by show _=_;unfold fJ;rw[Tp (by simpa using l),x,Tp (by omega),Tr (by rw[B.o];omega)]);subst hl;clear x l;go_enter func16,ntmps16;(go_upto_region 5 with (go_at_call 35;refine Ts F.o ?_;rintro e E ⟨rfl,a⟩;rw[a];clear a));rw[G.o];go_wp2_with (go_at_call 36;refine Ts i.o ?_;rintro e E ⟨rfl,a⟩;rw[a];clear a);go_ret;exact⟨by rw[r.o];rfl,by rw[r.o];exact⟨(fun q=>by cases q),fun _=>z.o⟩⟩
   ·have r:Xr (fJ b n d=(0,b++[(n,d)])):=(by show _=_;unfold fJ;rw[Tp (by simpa using l),x,Tp (by omega),Tp (by rw[B.o];omega)]);have an:((m:Int)==4)=false:=(by simp;omega);have A:Xr ((cY b).n=m):=B.o;clear x l;obtain⟨i0,hi,Y,Z,ac⟩:=TZ Bo;have hD:Xr (gC (W.alloc (.cells #[string n,string d] 68)).drew H b h R p2 p3 p4):=f.o.XE ((ae.refl [] W).alloc _).drew;have s2:Xr (∀j u,([string n,string d]:List Value)[j]?=some u->(W.alloc (.cells #[string n,string d] 68)).drew.cell? ((⟨W.heap.size,0,none⟩:Addr).add j)=some u):=by
     intro j u hj;rw[bY];have L:(W.alloc (.cells #[string n,string d] 68)).drew.heap[W.heap.size]?=some (.cells #[string n,string d] 68):=Tu _ _;rw[ah L];simpa using hj
    have s3:Xr (∀u∈([string n,string d]:List Value),u.oneCell'=true):=by intro u hu;simp only[List.mem_cons,List.not_mem_nil,or_false]at hu;rcases hu with rfl | rfl <;> rfl
    have s4:Xr ((cY b).n+1<=maxLen):=(by show _<=_;rw[A.o];unfold maxLen;omega);have s5:Xr (((cY b).n+1)*32<=140737488355328):=(by show _<=_;rw[A.o];omega);go_enter func16,ntmps16;(go_upto_region 5 with (go_at_call 35;refine Ts F.o ?_;rintro e E ⟨rfl,a⟩;rw[a];clear a));rw[G.o];(go_upto_region 9 with (go_at_call 36;refine Ts i.o ?_;rintro e E ⟨rfl,a⟩;rw[a];clear a));go_region_law (refine dd rfl (.tmp 41) (.tmp 43) 33 rfl i0 (agg #[string ⟨#[]⟩,string ⟨#[]⟩]) 32 h (cY b) underlying33 hi Y Z ac rfl (show 0<2 by omega) (by rw[A.o];simp[Act.eval]) hD.o.X9 ⟨W.heap.size,0,none⟩ 1 1 [string n,string d] (by simp[Act.eval]) rfl s2.o s3.o TR s4.o s5.o ?_;intro Q p S M y K;have T:=(show Xr (bq W S h ⟨some ⟨Q,0,none⟩,p⟩) from(bq.XE ((ae.refl [] W).alloc _).drew).trans (bq.made y (by simpa using K)));have P:=T.o.XR.get f.o.d (fun hq=>f.o.far (aQ hq));have e5:=am P 0;have e6:S.cell? ⟨H,0,none⟩=some (slice h.ao m h.cap):=(by rw[ah P,<-B.o];rfl);have z5:=aj P)
    all_goals
     have N:aB S ⟨some ⟨Q,0,none⟩,p⟩ (cY (b++[(n,d)])):=(by rw[<-yx];exact M);have t:Xr _:=(f.o.grown (m:=(cY b).n+1) T.o N (by simp;rw[B.o];omega) (by simp[cY]));obtain⟨X,D⟩:=bn (S.setCell ⟨H,0,none⟩ (slice (some ⟨Q,0,none⟩) ((cY b).n+1) p));have v:=(show Xr (zb w X H h ⟨some ⟨Q,0,none⟩,p⟩) by rw[<-D.o];exact((zb.of (bq.XE z.o)).trans (zb.of T.o)).set 0 _);rw[D.o]at t ⊢;have x1:=am t.o.d 1;have x2:X.cell? ⟨H,1,none⟩=some (bool R):=(by rw[ah t.o.d];rfl);clear M y K P e5 e6 z5 N O D;go_wp2;go_ret;exact⟨by rw[r.o];rfl,by rw[r.o];exact⟨fun _=>⟨_,t.o.off,v.o.set 1 _⟩,fun q=>absurd rfl q⟩⟩
  ·have r:Xr (fJ b n d=(0,b.set k (n,d))):=(by show _=_;unfold fJ;rw[Tp (by simpa using l),x,Tr (by omega),Ur]);rw[x]at i;obtain⟨g,C,af,ag⟩:=rD f.o.X9 (show 0<b.length by omega);obtain⟨g',I,-,q0,q1⟩:=f.o.X9.srcFi.2 k L;rw[C]at I;cases I
   have t:Xr _:=f.o.wrote C L n d;have al:(k:Int)<(m:Int):=(by rw[B.o]at L;omega);have ai:(0:Int)<=(k:Int):=(by omega);have u0:W.frozen? ⟨g,k*2,none⟩=false/\W.frozen? ⟨g,k*2+1,none⟩=false:=by
    rcases f.o.X9.XP with ⟨e,-,-⟩ | ⟨g2,ad,e1,I,-⟩
    ·rw[e]at C;cases C
    ·rw[C]at e1;cases e1;exact⟨am I _,am I _⟩
   obtain⟨u0,u1⟩:=u0;have v:Xr (zb w ((W.setCell ⟨g,k*2,none⟩ (string n)).setCell ⟨g,k*2+1,none⟩ (string d)).drew H h h):=by
    have hb:h.XS=some g:=(by unfold Hd.XS;rw[C];rfl);have:=z.o.mono (S':=H :: h.XS.toList) (by simp);exact⟨((this.setCell (TH (by rw[hb];simp)) _).setCell (TH (by rw[hb];simp)) _).drew,TH rfl⟩
   rw[C]at O i;clear x l;go_enter func16,ntmps16;(go_upto_region 5 with (go_at_call 35;refine Ts F.o ?_;rintro e E ⟨rfl,a⟩;rw[a];clear a));rw[G.o];(go_upto_region 10 with (go_at_call 36;refine Ts i.o ?_;rintro e E ⟨rfl,a⟩;rw[a];clear a));go_region;obtain⟨X,D⟩:=bn (((W.setCell ⟨g,k*2,none⟩ (string n)).setCell ⟨g,k*2+1,none⟩ (string d)).drew);rw[D.o]at t v ⊢;have x1:=am t.o.d 1;have x2:X.cell? ⟨H,1,none⟩=some (bool R):=(by rw[ah t.o.d];rfl);clear O D q0 q1 u0 u1;go_wp2;go_ret;exact⟨by rw[r.o];rfl,by rw[r.o];exact⟨fun _=>⟨_,t.o.off,v.o.set 1 _⟩,fun q=>absurd rfl q⟩⟩
def OI(x:jP×Hd):List Value:=[slice x.2.ao x.1.st.length x.2.cap,int i64 x.1.why,string x.1.XZ,int i64 x.1.X0,int i64 x.1.X3]
theorem PQ(x:jP×Hd):(OI x).length=5:=rfl
def gO(L:List (jP×Hd)):eR:=lG 122 5 OI L
def gG(L:List iq):eR:=lG 38 6 lg L
structure OH(w:World)(v b:Nat)(x0 x1:Value)(PS:List (jP×Hd))(aoP:Xu)(cP:Nat)(RS:List iq)(aoR:Xu)(cR:Nat):Prop where
 d:w.heap[v]?=some (.cells #[x0,x1,pointer (some ⟨b,0,none⟩),slice aoP PS.length cP,slice aoR RS.length cR] 85)
 p:di w aoP 5 OI PS
 q:∀x∈PS,di w x.2.ao 6 lI x.1.st
 r:di w aoR 6 lg RS
theorem OH.XE{f:List (jP×Hd)}{c:Xu}{g:List iq}{e:Xu}{i:Nat}(a:OH w b D x y f c v g e i)(k:ae [] w n):OH n b D x y f c v g e i :=
 ⟨k.get a.d (by simp),a.p.XE k,fun l j=>(a.q l j).XE k,a.r.XE k⟩
def dW(RS:List iq)(a:Nat):iq:=RS.getD a Qi
theorem wT(b:List iq)(a:Nat)(h:a<b.length):b[a]?=some (dW b a):=by
 unfold dW;rw[To,Tn h];rfl
def cM(RS:List iq)(a:Nat):Bool:=((dW RS a).XF==4)||((dW RS a).XF==5)
theorem Au(z A:Value)(t:List (jP×Hd))(k:Xu)(u:Nat)(a:List iq)(l:Xu)(p:Nat)(w:World)(n:OH w i f z A t k u a l p)(v:H<a.length) :
  Calls prog 67 #[pointer (some ⟨i,0,none⟩),int i64 H] w fun e y=>e=returned (bool (cM a H))/\y=w:=by
 obtain⟨g,rfl,D,c⟩:=n.r H _ (wT a H v);have B:w.cell? ⟨g,H*6+1,none⟩=some (int i64 (dW a H).XF):=c 1 _ rfl;have C:w.cell? ⟨i,4,none⟩=some (slice (some ⟨g,0,none⟩) a.length p):=by rw[ah n.d];rfl
 have x:(H:Int)<a.length:=by omega
 have j:Xr (cM a H=(((dW a H).XF==4)||((dW a H).XF==5))):=rfl;generalize (dW a H).XF=s at *;clear n c;cases m:(s==4)
 ·cases q:(s==5)
  ·have b:Xr (cM a H=false):=(by show _=_;rw[j.o,m,q];rfl);go_enter func67,ntmps67;go_wp2;go_ret;exact⟨aF b.o.symm,rfl⟩
  ·have b:Xr (cM a H=true):=(by show _=_;rw[j.o,m,q];rfl);go_enter func67,ntmps67;go_wp2;go_ret;exact⟨aF b.o.symm,rfl⟩
 ·have b:Xr (cM a H=true):=by show _=_;rw[j.o,m];rfl
  go_enter func67,ntmps67;go_wp2;go_ret;exact⟨aF b.o.symm,rfl⟩
end Go.Proofs.YtnbhnocdhbcbcaaGreat

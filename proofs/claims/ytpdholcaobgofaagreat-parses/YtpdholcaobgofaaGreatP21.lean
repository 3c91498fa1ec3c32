import Derived.Deep.RegionLaw
import Derived.Test.YtpdholcaobgofaaGreatP20
namespace Go.Proofs.YtpdholcaobgofaaGreat
open Go.RowKit Tryz
open Value IntKind Ending
set_option maxHeartbeats 0
variable{w n:World}{b D v:Nat}{x y k:Value}{L:lF}{H d:Hd}{S:Sl}{I:List Sl}{T:Fs}{o:Bool}(i f l:Nat)
structure j4 where
 Zbz:Xr
 Zbk:Int
 why:Int
 ZbD:Xr
 ZbE:Int
 ZbF:Int
def lZ(r:j4):List Value:=[string r.Zbz,int i64 r.Zbk,int i64 r.why,string r.ZbD,int i64 r.ZbE,int i64 r.ZbF]
theorem Bl(r:j4):(lZ r).length=6:=rfl
def BB(T:List Tk)(S:List Sm)(a:Nat)(P:List dV)(l:Xr)(t:Tk)(M:List Xs):j4 :=
 if(fj P (P.length-1)==0)=false then⟨l,2,11,t.ZbD,t.ZbE,t.ZbF⟩
 else if qQ (aU T S a) (M.getD (P.length-1) [])=false then⟨l,2,12,t.ZbD,t.ZbE,t.ZbF⟩ else⟨l,4,0,⟨#[]⟩,0,0⟩
def si(T:List Tk)(S:List Sm)(a:Nat)(P:List dV)(l:Xr)(t:Tk):Nat->Nat->List Xs->j4
 | 0,_,M=>BB T S a P l t M
 | n+1,i,M=>if((xT T S a P i M).2==0)=false then⟨l,2,(xT T S a P i M).2,(cn P i).ZbD,(cn P i).ZbE,(cn P i).ZbF⟩ else si T S a P l t n (i+1) (M++[(xT T S a P i M).1])
def px(T:List Tk)(S:List Sm)(a:Nat)(p:lF)(t:Tk):j4 :=
 if(p.why==0)=false then⟨bP T (ay S a),2,p.why,p.ZbD,p.ZbE,p.ZbF⟩
 else if 0<=jy p.st then⟨bP T (ay S a),3,p.why,(cn p.st (jy p.st).toNat).ZbD,(cn p.st (jy p.st).toNat).ZbE,(cn p.st (jy p.st).toNat).ZbF⟩
 else si T S a p.st (bP T (ay S a)) t p.st.length 0 []
theorem qP{o p q:Value}(h:w.heap[b]?=some (.cells #[x,y,k,o,p,q] 38))(a c d e f g:Value) :
  (w.setCell ⟨b,0,none⟩ a).cell? ⟨b,0,none⟩=some a/\((w.setCell ⟨b,0,none⟩ a).setCell ⟨b,1,none⟩ c).cell? ⟨b,1,none⟩=some c/\(((w.setCell ⟨b,0,none⟩ a).setCell ⟨b,1,none⟩ c).setCell ⟨b,2,none⟩ d).cell? ⟨b,2,none⟩=some d/\((((w.setCell ⟨b,0,none⟩ a).setCell ⟨b,1,none⟩ c).setCell ⟨b,2,none⟩ d).setCell ⟨b,3,none⟩ e).cell? ⟨b,3,none⟩=some e /\
  (((((w.setCell ⟨b,0,none⟩ a).setCell ⟨b,1,none⟩ c).setCell ⟨b,2,none⟩ d).setCell ⟨b,3,none⟩ e).setCell ⟨b,4,none⟩ f).cell? ⟨b,4,none⟩=some f/\((((((w.setCell ⟨b,0,none⟩ a).setCell ⟨b,1,none⟩ c).setCell ⟨b,2,none⟩ d).setCell ⟨b,3,none⟩ e).setCell ⟨b,4,none⟩ f).setCell ⟨b,5,none⟩ g).cell? ⟨b,5,none⟩=some g:=by
 have i:=ae h 0 a;have j:=ae i 1 c;have l:=ae j 2 d;have m:=ae l 3 e;have n:=ae m 4 f;have r:=ae n 5 g;exact⟨by rw[ab i];rfl,by rw[ab j];rfl,by rw[ab l];rfl,by rw[ab m];rfl,by rw[ab n];rfl,by rw[ab r];rfl⟩
theorem fA{r:j4}(h:w.heap[b]?=some (.cells (lZ r).toArray 38)) :
  (w.cell? ⟨b,0,none⟩=some (string r.Zbz)/\w.cell? ⟨b,1,none⟩=some (int i64 r.Zbk)/\w.cell? ⟨b,2,none⟩=some (int i64 r.why)/\w.cell? ⟨b,3,none⟩=some (string r.ZbD)/\w.cell? ⟨b,4,none⟩=some (int i64 r.ZbE)/\w.cell? ⟨b,5,none⟩=some (int i64 r.ZbF)) /\
  (w.frozen? ⟨b,0,none⟩=false/\w.frozen? ⟨b,1,none⟩=false/\w.frozen? ⟨b,2,none⟩=false/\w.frozen? ⟨b,3,none⟩=false/\w.frozen? ⟨b,4,none⟩=false/\w.frozen? ⟨b,5,none⟩=false)/\b<w.heap.size:=by
 refine⟨⟨?_,?_,?_,?_,?_,?_⟩,⟨zcW h 0,zcW h 1,zcW h 2,zcW h 3,zcW h 4,zcW h 5⟩,ah h⟩
 all_goals (rw[ab h];rfl)
def Wm:j4:=⟨⟨#[]⟩,0,0,⟨#[]⟩,0,0⟩
def QC(w:World)(r:j4)(e:Ending)(w':World):Prop:=e=returned (agg (lZ r).toArray)/\aa [] w w'
structure Qz(T:List Tk)(S:List Sm)(a:Nat)(p:lF):Prop where
 le:p.st.length<=100000000
 nd:UH p.st
 st:p.why=0->0<p.st.length/\∀i,i<p.st.length->(cn p.st i).ref≠-1->QF T S a p.st i
structure FJ(w wr:World)(p:lF)(hp:Hd)(r:j4):Prop where
 e:wr.heap[w.heap.size]?=some (.cells #[slice hp.ao p.st.length hp.cap,int i64 p.why,string p.ZbD,int i64 p.ZbE,int i64 p.ZbF] 122)
 z:wr.heap[w.heap.size+1]?=some (.cells (lZ Wm).toArray 38)
 r:wr.heap[w.heap.size+2]?=some (.cells (lZ r).toArray 38)
 Zbw:aa [] w wr
theorem FJ.Zbj{b:World}{r:j4}(a:FJ w n L H r)(k:aa [] n b):FJ w b L H r:=⟨k.get a.e (by simp),k.get a.z (by simp),k.get a.r (by simp),a.Zbw.trans k⟩
theorem FJ.set{r r':j4}(a:FJ w n L H r)(i:Nat)(v:Value)(h:(lZ r).set i v=lZ r'):FJ w (n.setCell ⟨w.heap.size+2,i,none⟩ v) L H r':=by
 have k:aa [w.heap.size+2] n (n.setCell ⟨w.heap.size+2,i,none⟩ v):=(aa.refl _ _).sl1 _;refine⟨k.get a.e (by simp),k.get a.z (by simp),?_,a.Zbw.sr1 (by simp) _⟩;rw[ae a.r,<-h];simp
theorem FJ.prf{r:j4}(a:FJ w n L H r):n.cell? ⟨w.heap.size,0,none⟩=some (slice H.ao L.st.length H.cap)/\n.cell? ⟨w.heap.size,1,none⟩=some (int i64 L.why)/\n.cell? ⟨w.heap.size,2,none⟩=some (string L.ZbD)/\n.cell? ⟨w.heap.size,3,none⟩=some (int i64 L.ZbE)/\n.cell? ⟨w.heap.size,4,none⟩=some (int i64 L.ZbF)/\w.heap.size<n.heap.size :=
 ⟨by rw[ab a.e];rfl,by rw[ab a.e];rfl,by rw[ab a.e];rfl,by rw[ab a.e];rfl,by rw[ab a.e];rfl,ah a.e⟩
theorem zcb(h:ri w S):∃q o,S.ao=some ⟨q,o,none⟩/\q<w.heap.size:=by
 obtain⟨g,e,a,-⟩:=h.x 0 _ (oD S.L 0 h.pos);exact⟨g,0,e,a⟩
theorem Ty(g:bL w n H d)(a:ri w S)(j:∀q o,S.ao=some ⟨q,o,none⟩->H.Zbx≠some q):ri n S:=by
 refine⟨⟨fun k x f=>?_,a.ok.nil,a.ok.le⟩,fun k x f=>?_,a.pos,a.le⟩
 ·obtain⟨q,o,e,b,c⟩:=a.ok.src k x f;exact⟨q,o,e,XB b g.Zbw.size,by rw[XJ (g.Zbw.block q b (fun i=>j q o e (aX i)))];exact c⟩
 ·obtain⟨q,e,b,c⟩:=a.x k x f;exact⟨q,e,XB b g.Zbw.size,by rw[XJ (g.Zbw.block q b (fun i=>j q 0 e (aX i)))];exact c⟩
theorem Wp(g:bL w n H d)(a:∀S∈I,ri w S)(e:∀S∈I,∀q o,S.ao=some ⟨q,o,none⟩->H.Zbx≠some q)(b:ri w S)(m:∀q o,S.ao=some ⟨q,o,none⟩->H.Zbx≠some q):∀t∈I++[S],ri n t:=fun t c=>by
 rcases X9.1 c with c | c
 ·exact Ty g (a t c) (e t c)
 ·rw[XH.1 c];exact Ty g b m
theorem UK(g:bL w n H d)(a:∀S∈I,ri w S)(p:∀S∈I,∀q o,S.ao=some ⟨q,o,none⟩->H.Zbx≠some q)(b:ri w S)(m:∀q o,S.ao=some ⟨q,o,none⟩->H.Zbx≠some q):∀t∈I++[S],∀q o,t.ao=some ⟨q,o,none⟩->d.Zbx≠some q:=fun t c q o e j=>by
 have f:ri w t/\H.Zbx≠some q:=by
  rcases X9.1 c with c | c
  ·exact⟨a t c,p t c q o e⟩
  ·rw[XH.1 c]at e ⊢;exact⟨b,m q o e⟩
 rcases g.Zbx with i | ⟨u,i,l⟩
 ·exact f.2 (by rw[<-i];exact j)
 ·rw[i]at j;cases j;obtain⟨v,s,k,r⟩:=zcb f.1;rw[e]at k;cases k
  omega
set_option maxRecDepth 100000
theorem Fk(T:List Tk)(ap:Xt)(cT:Nat)(S:List Sm)(an:Xt)(cS:Nat)(p:lF)(hp:Hd)(w:World)(hD:gM w i T ap cT S an cS)(ok:pE T S f)(hB:CB T S f)(b8:zag T S f)(hn:f<S.length)(hE:dA T (ay S f).h)(db:(ay S f).a<T.length)(dk:(ay S f).z=l+1)(ds:l<T.length)(hP:cW w hp.ao 6 mG p.st)(a4:Qz T S f p) :
  Calls prog 88 #[pointer (some ⟨i,0,none⟩),int i64 f,agg #[slice hp.ao p.st.length hp.cap,int i64 p.why,string p.ZbD,int i64 p.ZbE,int i64 p.ZbF]] w fun e w'=>QC w (px T S f p (T.getD l kg)) e w':=by
 obtain⟨W,HW⟩:=aP (((w.alloc (.cells #[slice hp.ao p.st.length hp.cap,int i64 p.why,string p.ZbD,int i64 p.ZbE,int i64 p.ZbF] 122)).alloc (.cells #[string ⟨#[]⟩,int i64 0,int i64 0,string ⟨#[]⟩,int i64 0,int i64 0] 38)).alloc (.cells #[string ⟨#[]⟩,int i64 2,int i64 p.why,string p.ZbD,int i64 p.ZbE,int i64 p.ZbF] 38));have V0:FJ w W p hp ⟨⟨#[]⟩,2,p.why,p.ZbD,p.ZbE,p.ZbF⟩:=by
  obtain⟨W1,a1⟩:∃W1,W1=w.alloc (.cells #[slice hp.ao p.st.length hp.cap,int i64 p.why,string p.ZbD,int i64 p.ZbE,int i64 p.ZbF] 122):=⟨_,rfl⟩
  obtain⟨W2,a2⟩:∃W2,W2=W1.alloc (.cells #[string ⟨#[]⟩,int i64 0,int i64 0,string ⟨#[]⟩,int i64 0,int i64 0] 38):=⟨_,rfl⟩
  have O:W1.heap.size=w.heap.size+1:=by rw[a1];simp
  have Q:W2.heap.size=w.heap.size+2:=by rw[a2];simp[O]
  have k0:=dx a1.symm;have k1:=dx a2.symm;have H:=dC a1.symm;have I:W2.heap[w.heap.size+1]?=some (.cells (lZ Wm).toArray 38):=by rw[a2,<-O];exact XD _ _
  rw[<-HW.o,<-a1,<-a2];have k2:aa [] W2 (W2.alloc (.cells #[string ⟨#[]⟩,int i64 2,int i64 p.why,string p.ZbD,int i64 p.ZbE,int i64 p.ZbF] 38)):=bH.alloc _;exact⟨k2.get (k1.get H (by simp)) (by simp),k2.get I (by simp),by rw[<-Q];exact XD _ _,(k0.trans k1).trans k2⟩
 have aT:Xq _:=V0;have HD:Xq _:=hD;have cu:Xq _:=ok;have HP:Xq _:=hP;have dT:=ok.tm;have co:Xq _:=hB;have cE:Xq _:=b8;have cx:Xq _:=hE;have a0:=a4.le;have be:Xq _:=a4.nd;have bk:Xq _:=a4.st;have b0:Xq (Calls prog 86 #[pointer (some ⟨i,0,none⟩),int i64 f] W fun e w'=>e=returned (string (bP T (ay S f)))/\aa [] W w'):=by
  have:=oN i f T ap cT S an cS W (hD.Zbj V0.Zbw) hn (by rw[bA S f hn];exact db);rw[bA S f hn]at this;exact this
 have ac:Xq (px T S f p (T.getD l kg)=if(p.why==0)=false then⟨bP T (ay S f),2,p.why,p.ZbD,p.ZbE,p.ZbF⟩
  else if 0<=jy p.st then⟨bP T (ay S f),3,p.why,(cn p.st (jy p.st).toNat).ZbD,(cn p.st (jy p.st).toNat).ZbE,(cn p.st (jy p.st).toNat).ZbF⟩
  else si T S f p.st (bP T (ay S f)) (T.getD l kg) p.st.length 0 []):=rfl
 have b4:Xq (∀G:World,aa [] w G->∃gT gs,ap=some ⟨gT,0,none⟩/\an=some ⟨gs,0,none⟩/\gT<G.heap.size/\gs<G.heap.size/\i<G.heap.size/\G.cell? ⟨i,0,none⟩=some (slice ap T.length cT)/\G.cell? ⟨i,1,none⟩=some (slice an S.length cS)/\G.cell? ⟨gs,f*4+1,none⟩=some (int i64 ((l:Int)+1))/\G.cell? ⟨gT,l*5+2,none⟩=some (string (T.getD l kg).ZbD)/\G.cell? ⟨gT,l*5+3,none⟩=some (int i64 (T.getD l kg).ZbE)/\G.cell? ⟨gT,l*5+4,none⟩=some (int i64 (T.getD l kg).ZbF)):=fun G kx=>by
  have hd:=gM.Zbj HD.o kx;obtain⟨c0,c1,hb⟩:=hd.cells;obtain⟨gs,J,bq,-,q1,-,-⟩:=hd.s.2 f S[f] (Xv hn);rw[bA S f hn,dk,show((l+1:Nat):Int)=(l:Int)+1 by omega]at q1;obtain⟨gT,K,bp,-,-,t2,t3,t4⟩:=hd.t.2 l _ (jN T l ds);exact⟨gT,gs,K,J,bp,bq,hb,c0,c1,q1,t2,t3,t4⟩
 have bd:Xq (∀G,aa [] w G->Calls prog 129 #[agg #[slice hp.ao p.st.length hp.cap,int i64 p.why,string p.ZbD,int i64 p.ZbE,int i64 p.ZbF]] G fun e w'=>e=returned (int i64 (jy p.st))/\aa [] G w'):=fun G kx=>Od p.st hp.ao hp.cap p.why p.ZbD p.ZbE p.ZbF G (hP.Zbj kx) a0;have cb:=J5 p.st;obtain⟨iL,c9,cj,ck,cl⟩:=XV J7;clear hD ok hB b8 hE hP a4 V0;obtain⟨j,Hl⟩:=aP (bP T (ay S f));rw[Hl.o]at b0 ac;obtain⟨V,cF⟩:=aP (px T S f p (T.getD l kg));rw[cF.o]at ac ⊢;obtain⟨P,y,pf,pl,pc⟩:=p;simp only at ac bd cb a0 be bk HP;obtain⟨H,I,n,J,K,Y⟩:=aT.o.prf;obtain⟨⟨u,B,C,D,E,F⟩,⟨Z,f1,f2,f3,f4,f5⟩,c⟩:=fA aT.o.r;obtain⟨⟨z0,O,Q,z3,z4,z5⟩,⟨y0,y1,y2,y3,y4,y5⟩,b⟩:=fA aT.o.z;simp only at u B C D E F;go_enter func88,ntmps88;go_upto_region 2 with fail
 rw[HW.o];go_upto_region 3 with (go_at_call 86;refine Xx b0.o ?_;rintro e w1 ⟨rfl,k1⟩;have V1:=aT.o.Zbj k1;obtain⟨⟨u0,-⟩,⟨u1,-⟩,u2⟩:=fA V1.r)
 have ag:Xq (FJ w (w1.setCell ⟨w.heap.size+2,0,none⟩ (string j)) ⟨P,y,pf,pl,pc⟩ hp ⟨j,2,y,pf,pl,pc⟩):=V1.set 0 (string j) rfl;obtain⟨X2,b6⟩:=aP (w1.setCell ⟨w.heap.size+2,0,none⟩ (string j));rw[b6.o]at ag ⊢;clear V1 u0 u1 u2 k1 b6;clear H I n J K Y u B C D E F Z f1 f2 f3 f4 f5 c z0 O Q z3 z4 z5 y0 y1 y2 y3 y4 y5 b;obtain⟨H,I,n,J,K,Y⟩:=ag.o.prf;obtain⟨⟨u,B,C,D,E,F⟩,⟨Z,f1,f2,f3,f4,f5⟩,c⟩:=fA ag.o.r;obtain⟨⟨z0,O,Q,z3,z4,z5⟩,⟨y0,y1,y2,y3,y4,y5⟩,b⟩:=fA ag.o.z;simp only at u B C D E F;simp only at H I n J K;cases hy:(y==0)
 ·rw[hy,XA rfl]at ac;have HX:Xq (V=⟨j,2,y,pf,pl,pc⟩):=ac.o;go_wp2;obtain⟨x0,x1,x2,x3,x4,x5⟩:=qP ag.o.z (string j) (int i64 2) (int i64 y) (string pf) (int i64 pl) (int i64 pc);exact XG (v:=agg #[string j,int i64 2,int i64 y,string pf,int i64 pl,int i64 pc]) (by simp[results,results88,go_sem,x0,x1,x2,x3,x4,x5]) rfl ⟨by rw[HX.o];rfl,(((((ag.o.Zbw.sr1 (by simp) _).sr1 (by simp) _).sr1 (by simp) _).sr1 (by simp) _).sr1 (by simp) _).sr1 (by simp) _⟩
 ·rw[hy,Xz (by simp)]at ac;have dp:y=0:=by simpa using hy
  subst dp;have bT:Xq _:=bd.o X2 ag.o.Zbw;go_upto_region 6 with (go_at_call 129;refine Xx bT.o ?_;rintro e w3 ⟨rfl,k3⟩)
  have al:Xq _:=ag.o.Zbj k3;clear k3;clear H I n J K Y u B C D E F Z f1 f2 f3 f4 f5 c z0 O Q z3 z4 z5 y0 y1 y2 y3 y4 y5 b;obtain⟨H,I,n,J,K,Y⟩:=al.o.prf;obtain⟨⟨u,B,C,D,E,F⟩,⟨Z,f1,f2,f3,f4,f5⟩,c⟩:=fA al.o.r;obtain⟨⟨z0,O,Q,z3,z4,z5⟩,⟨y0,y1,y2,y3,y4,y5⟩,b⟩:=fA al.o.z;simp only at u B C D E F;simp only at H I n J K;rcases cb with ⟨hh,cc⟩ | ⟨k,hk,hh⟩
  ·rw[hh,Xz (by omega)]at ac;rw[hh];obtain⟨dz,ch⟩:=bk.o (by trivial);have cB:Xq (∀m,m<P.length->QF T S f P m):=fun m hi=>ch m hi (cc m hi);have cs:Xq (iG w3 w3 ⟨none,0⟩ (nj [])):=⟨XE _ _ _ _,(by intro k hk;cases hk),aa.refl _ _⟩;have a6:Xq (si T S f P j (T.getD l kg) (P.length-0) 0 (([]:List Sl).map (·.L))=V):=ac.o.symm;obtain⟨tz,cR⟩:=aP (T.getD l kg);rw[cR.o]at b4 a6;clear ch cc hh ac bk bd bT;go_wp2;clear H I n J K Y u B C D E F Z f1 f2 f3 f4 f5 c z0 O Q z3 z4 z5 y0 y1 y2 y3 y4 y5 b
   go_loopg [9,10] P.length (fun g o iv wr=>∃(m:Nat) (h:Hd) (A:List Sl),m<=P.length/\g=P.length-m/\o=slice h.ao A.length h.cap/\iv=int i64 m/\Xq (A.length=m)/\Xq (∀s∈A,ri wr s)/\Xq (∀s∈A,∀q o,s.ao=some ⟨q,o,none⟩->h.Zbx≠some q)/\Xq (si T S f P j tz (P.length-m) m (A.map (·.L))=V)/\Xq (iG w3 wr h (nj A)))
   ·exact⟨0,⟨none,0⟩,[],by omega,rfl,rfl,rfl,rfl,(fun s hs=>by cases hs),(fun s hs=>by cases hs),a6,cs⟩
   obtain⟨m,h,A,hi,hg,rfl,rfl,aq,ba,bc,HG,ar⟩:=hrel;have am:Xq _:=al.o.Zbj ar.o.Zbw;have aS:Xq _:=am.o.Zbw;obtain⟨H,I,n,J,K,Y⟩:=am.o.prf;obtain⟨⟨u,B,C,D,E,F⟩,⟨Z,f1,f2,f3,f4,f5⟩,c⟩:=fA am.o.r;obtain⟨⟨z0,O,Q,z3,z4,z5⟩,⟨y0,y1,y2,y3,y4,y5⟩,b⟩:=fA am.o.z;simp only at u B C D E F;simp only at H I n J K;rcases kn m P.length with ⟨az,d0⟩ | ⟨az,-⟩
   ·have bj:Xq _:=Px i f m T ap cT S an cS P hp.ao hp.cap 0 pf pl pc A h.ao h.cap wr (gM.Zbj HD.o aS.o) cu.o co.o cE.o hn (cW.Zbj HP.o aS.o) a0 be.o az (cB.o m az) (ar.o.ZbH.srcG zw) ba.o aq.o;obtain⟨d,hd⟩:∃d,P.length-m=d+1:=⟨P.length-m-1,by omega⟩
    have af:Xq (si T S f P j tz (d+1) m (A.map (·.L))=V):=(by rw[<-hd];exact HG);rw[si]at af;have cL:Xq (P.length-(m+1)=d):=cm (by omega);clear hd HG;obtain⟨SR,cA⟩:=aP (xT T S f P m (A.map (·.L)));rw[cA.o]at bj af;obtain⟨sE,sW⟩:=SR;simp only at af;(go_upto_region 15 with (go_at_call 130;refine Xx bj.o ?_;rintro e w4 ⟨s,rfl,cf,a7,cg,k4⟩));have R:Xq _:=am.o.Zbj k4;have b5:Xq _:=ar.o.Zbj k4;have a5:Xq (∀s∈A,ri w4 s):=fun s hs=>(ba.o s hs).Zbj k4;have b3:Xq (s.L=sE):=cf;have cy:Xq ((sW==0)=true->ri w4 s):=a7;have b2:Xq (∀q o,s.ao=some ⟨q,o,none⟩->h.Zbx≠some q):=fun q o e hb=>by
     rcases cg with hm | hf
     ·exact bc.o s hm q o e hb
     ·have:=hf q o e;have:=ar.o.ZbH.lt hb;omega
    clear cf a7 cg k4 bj;clear H I n J K Y u B C D E F Z f1 f2 f3 f4 f5 c z0 O Q z3 z4 z5 y0 y1 y2 y3 y4 y5 b;obtain⟨H,I,n,J,K,Y⟩:=R.o.prf;obtain⟨⟨u,B,C,D,E,F⟩,⟨Z,f1,f2,f3,f4,f5⟩,c⟩:=fA R.o.r;obtain⟨⟨z0,O,Q,z3,z4,z5⟩,⟨y0,y1,y2,y3,y4,y5⟩,b⟩:=fA R.o.z;simp only at u B C D E F;simp only at H I n J K;cases hw:(sW==0)
    ·rw[hw,XA rfl]at af;have HX:Xq (V=⟨j,2,sW,(cn P m).ZbD,(cn P m).ZbE,(cn P m).ZbF⟩):=af.o.symm;obtain⟨gP,av,ax,-,-,-,q3,q4,q5⟩:=cW.step (cW.Zbj HP.o R.o.Zbw) m az;have HQ:Xq (∀G:World,aa [] w G->gP<G.heap.size/\G.cell? ⟨gP,m*6+3,none⟩=some (string (cn P m).ZbD)/\G.cell? ⟨gP,m*6+4,none⟩=some (int i64 (cn P m).ZbE)/\G.cell? ⟨gP,m*6+5,none⟩=some (int i64 (cn P m).ZbF)):=fun G kx=>by
      obtain⟨g2,n,h2,-,-,-,c3,c4,c5⟩:=cW.step (cW.Zbj HP.o kx) m az;rw[av]at n;cases n
      exact⟨h2,c3,c4,c5⟩
     generalize (cn P m).ZbD=sf at *;generalize (cn P m).ZbE=sl at *;generalize (cn P m).ZbF=sc at *;clear ax q3 q4 q5;(go_upto_region 17 with fail);have M:Xq (FJ w (w4.setCell ⟨w.heap.size+2,2,none⟩ (int i64 sW)) ⟨P,0,pf,pl,pc⟩ hp ⟨j,2,sW,pf,pl,pc⟩):=R.o.set 2 (int i64 sW) rfl;obtain⟨X4,bl⟩:=aP (w4.setCell ⟨w.heap.size+2,2,none⟩ (int i64 sW));rw[bl.o]at M ⊢;clear H I n J K Y u B C D E F Z f1 f2 f3 f4 f5 c z0 O Q z3 z4 z5 y0 y1 y2 y3 y4 y5 b;obtain⟨H,I,n,J,K,Y⟩:=M.o.prf;obtain⟨⟨u,B,C,D,E,F⟩,⟨Z,f1,f2,f3,f4,f5⟩,c⟩:=fA M.o.r;obtain⟨⟨z0,O,Q,z3,z4,z5⟩,⟨y0,y1,y2,y3,y4,y5⟩,b⟩:=fA M.o.z;simp only at u B C D E F;simp only at H I n J K;obtain⟨ax,q3,q4,q5⟩:=HQ.o X4 M.o.Zbw;rw[av]at H;(go_upto_region 18 with fail);have U:Xq (FJ w (((X4.setCell ⟨w.heap.size+2,3,none⟩ (string sf)).setCell ⟨w.heap.size+2,4,none⟩ (int i64 sl)).setCell ⟨w.heap.size+2,5,none⟩ (int i64 sc)) ⟨P,0,pf,pl,pc⟩ hp ⟨j,2,sW,sf,sl,sc⟩):=((M.o.set (r':=⟨j,2,sW,sf,pl,pc⟩) 3 (string sf) rfl).set (r':=⟨j,2,sW,sf,sl,pc⟩) 4 (int i64 sl) rfl).set 5 (int i64 sc) rfl;obtain⟨X5,bm⟩:=aP (((X4.setCell ⟨w.heap.size+2,3,none⟩ (string sf)).setCell ⟨w.heap.size+2,4,none⟩ (int i64 sl)).setCell ⟨w.heap.size+2,5,none⟩ (int i64 sc));rw[bm.o]at U ⊢;clear H I n J K Y u B C D E F Z f1 f2 f3 f4 f5 c z0 O Q z3 z4 z5 y0 y1 y2 y3 y4 y5 b;obtain⟨H,I,n,J,K,Y⟩:=U.o.prf;obtain⟨⟨u,B,C,D,E,F⟩,⟨Z,f1,f2,f3,f4,f5⟩,c⟩:=fA U.o.r;obtain⟨⟨z0,O,Q,z3,z4,z5⟩,⟨y0,y1,y2,y3,y4,y5⟩,b⟩:=fA U.o.z;simp only at u B C D E F;go_wp2;obtain⟨x0,x1,x2,x3,x4,x5⟩:=qP U.o.z (string j) (int i64 2) (int i64 sW) (string sf) (int i64 sl) (int i64 sc);exact XG (v:=agg #[string j,int i64 2,int i64 sW,string sf,int i64 sl,int i64 sc]) (by simp[results,results88,go_sem,x0,x1,x2,x3,x4,x5]) rfl ⟨by rw[HX.o];rfl,(((((U.o.Zbw.sr1 (by simp) _).sr1 (by simp) _).sr1 (by simp) _).sr1 (by simp) _).sr1 (by simp) _).sr1 (by simp) _⟩
    ·rw[hw,Xz (by simp)]at af;have dl:sW=0:=(by simpa using hw);subst dl;have b1:Xq _:=cy.o rfl;rw[<-b3.o]at af;have ct:Xq (([slice s.ao sE.length s.cap]:List Value)=Le s):=cm (by unfold Le;rw[b3.o]);have c2:=b5.o.ZbH;have cv:Xq ((nj A).n<=900000000):=by show A.length<=_;rw[aq.o];omega
     go_wp2_with (at_builtin;refine cQ _ rfl (.tmp 71) (.tmp 73) 218 rfl iL (slice none 0 0) 24 h (nj A) [slice s.ao sE.length s.cap] underlying218 c9 cj ck cl rfl XR rfl c2 cv.o (by omega) rfl rfl (by simp[Value.oneCell']) ?_;intro h7 w7 br a3;rw[ct.o,ui]at br;have cq:Xq _:=b5.o.Zbt a3 br;have bs:Xq _:=Wp a3 a5.o bc.o b1.o b2.o;have bv:Xq _:=UK a3 a5.o bc.o b1.o b2.o;clear br a3);go_roundg (P.length-(m+1))
     ·exact⟨m+1,h7,A++[s],by omega,rfl,by simp[nj,lu],by go_num,by show _=_;rw[XC,aq.o];rfl,bs,bv,by rw[cL.o,Yj];exact af,cq⟩
     omega
   ·obtain⟨q,hq⟩:∃q,P.length=q+1:=⟨P.length-1,by omega⟩
    have dt:¬(m:Int)<P.length:=(by omega);have d5:IntKind.i64.wrap ((P.length:Int)-1)=(q:Int):=(by rw[YS];omega);have af:Xq (BB T S f P j tz (A.map (·.L))=V):=(by have:=HG.o;rw[show P.length-m=0 by omega,si]at this;exact this);have ad:Xq (BB T S f P j tz (A.map (·.L))=if(fj P q==0)=false then⟨j,2,11,tz.ZbD,tz.ZbE,tz.ZbF⟩ else if qQ (aU T S f) (ik A q).L=false then⟨j,2,12,tz.ZbD,tz.ZbE,tz.ZbF⟩ else⟨j,4,0,⟨#[]⟩,0,0⟩):=cm (by unfold BB;rw[show P.length-1=q by omega,AC A q (by rw[aq.o];omega)]);have cd:q<A.length:=(by rw[aq.o];omega);have dv:(q:Int)<A.length:=(by omega);have df:q<P.length:=(by omega);have d4:(0:Int)<=(q:Int):=(by omega);clear hq HG;rw[af.o]at ad;have bz:Xq _:=(xj P hp.ao hp.cap 0 pf pl pc a0 be.o (q+1) q wr (by omega) df (cW.Zbj HP.o aS.o));generalize fj P q=bg at *;have bx:Xq (∀G,aa [] w G->Calls prog 71 #[pointer (some ⟨i,0,none⟩),int i64 (f:Int)] G fun e w'=>∃h',e=returned (slice h'.ao (aU T S f).length h'.cap)/\xf G w' h' (aU T S f)):=fun G kx=>by
     have:=jI i f T ap cT S an cS G (gM.Zbj HD.o kx) hn (by omega) (by rw[bA S f hn];exact cx.o);rw[bA S f hn]at this;exact this
    have c6:(aU T S f).length<=T.length:=jO T _;obtain⟨X,cH⟩:=aP (aU T S f);rw[cH.o]at bx c6 ad;(go_upto_region 22 with (go_at_call 131;refine Xx bz.o ?_;rintro e w4 ⟨rfl,k4⟩));have bw:Xq _:=bx.o w4 (aS.o.trans k4);(go_upto_region 23 with (go_at_call 71;refine Xx bw.o ?_;rintro e w5 ⟨h5,rfl,x5⟩));have k5:=k4.trans x5.Zbw;have M:Xq _:=am.o.Zbj k5;obtain⟨gA,cX,c8,cV⟩:=cW.sl ((ar.o.Zbj k5).ZbH.srcG zw) q cd;have cz:Xq _:=(ba.o (ik A q) (lx A q cd)).Zbj k5;have bf:Xq _:=(II X (ik A q).L h5.ao (ik A q).ao h5.cap (ik A q).cap w5 x5.ZbH.srcX cz.o.x (by omega));generalize ik A q=s at *;obtain⟨sm,cP⟩:=aP (qQ X s.L);rw[cP.o]at bf ad;rw[cX];clear k4 k5 x5 bw bz;clear H I n J K Y u B C D E F Z f1 f2 f3 f4 f5 c z0 O Q z3 z4 z5 y0 y1 y2 y3 y4 y5 b;(go_upto_region 24 with (go_at_call 132;refine Xx bf.o ?_;rintro e w6 ⟨rfl,k6⟩));have U:Xq _:=M.o.Zbj k6;clear k6 cV c8 bf;obtain⟨H,I,n,J,K,Y⟩:=U.o.prf;obtain⟨⟨u,B,C,D,E,F⟩,⟨Z,f1,f2,f3,f4,f5⟩,c⟩:=fA U.o.r;obtain⟨⟨z0,O,Q,z3,z4,z5⟩,⟨y0,y1,y2,y3,y4,y5⟩,b⟩:=fA U.o.z;simp only at u B C D E F;simp only at H I n J K;obtain⟨gT,gs,rfl,rfl,bp,bq,c7,c0,c1,q1,t2,t3,t4⟩:=b4.o w6 U.o.Zbw;have d3:(f:Int)<S.length:=(by omega);have d6:(l:Int)<T.length:=(by omega);obtain⟨ts,tr,tf,tl,tc⟩:=tz;simp only at t2 t3 t4 ad;have ai:Xq (FJ w (((w6.setCell ⟨w.heap.size+2,3,none⟩ (string tf)).setCell ⟨w.heap.size+2,4,none⟩ (int i64 tl)).setCell ⟨w.heap.size+2,5,none⟩ (int i64 tc)).drew ⟨P,0,pf,pl,pc⟩ hp ⟨j,2,0,tf,tl,tc⟩):=(((U.o.set (r':=⟨j,2,0,tf,pl,pc⟩) 3 (string tf) rfl).set (r':=⟨j,2,0,tf,tl,pc⟩) 4 (int i64 tl) rfl).set (r':=⟨j,2,0,tf,tl,tc⟩) 5 (int i64 tc) rfl).Zbj bH.drew;go_region;obtain⟨X7,b7⟩:=aP ((((w6.setCell ⟨w.heap.size+2,3,none⟩ (string tf)).setCell ⟨w.heap.size+2,4,none⟩ (int i64 tl)).setCell ⟨w.heap.size+2,5,none⟩ (int i64 tc)).drew);rw[b7.o]at ai ⊢;clear H I n J K Y u B C D E F Z f1 f2 f3 f4 f5 c z0 O Q z3 z4 z5 y0 y1 y2 y3 y4 y5 b;clear bp bq c7 c0 c1 q1 t2 t3 t4 b7;obtain⟨H,I,n,J,K,Y⟩:=ai.o.prf;obtain⟨⟨u,B,C,D,E,F⟩,⟨Z,f1,f2,f3,f4,f5⟩,c⟩:=fA ai.o.r;obtain⟨⟨z0,O,Q,z3,z4,z5⟩,⟨y0,y1,y2,y3,y4,y5⟩,b⟩:=fA ai.o.z;simp only at u B C D E F;simp only at H I n J K;cases ca:(bg==0)
    ·rw[ca,XA rfl]at ad;have HX:Xq (V=⟨j,2,11,tf,tl,tc⟩):=ad.o;(go_upto_region 27 with fail);have N:Xq (FJ w (X7.setCell ⟨w.heap.size+2,2,none⟩ (int i64 11)) ⟨P,0,pf,pl,pc⟩ hp ⟨j,2,11,tf,tl,tc⟩):=ai.o.set 2 (int i64 11) rfl;obtain⟨X8,bo⟩:=aP (X7.setCell ⟨w.heap.size+2,2,none⟩ (int i64 11));rw[bo.o]at N ⊢;clear H I n J K Y u B C D E F Z f1 f2 f3 f4 f5 c z0 O Q z3 z4 z5 y0 y1 y2 y3 y4 y5 b;obtain⟨H,I,n,J,K,Y⟩:=N.o.prf;obtain⟨⟨u,B,C,D,E,F⟩,⟨Z,f1,f2,f3,f4,f5⟩,c⟩:=fA N.o.r;obtain⟨⟨z0,O,Q,z3,z4,z5⟩,⟨y0,y1,y2,y3,y4,y5⟩,b⟩:=fA N.o.z;simp only at u B C D E F;go_wp2;obtain⟨x0,x1,x2,x3,x4,x5⟩:=qP N.o.z (string j) (int i64 2) (int i64 11) (string tf) (int i64 tl) (int i64 tc);exact XG (v:=agg #[string j,int i64 2,int i64 11,string tf,int i64 tl,int i64 tc]) (by simp[results,results88,go_sem,x0,x1,x2,x3,x4,x5]) rfl ⟨by rw[HX.o];rfl,(((((N.o.Zbw.sr1 (by simp) _).sr1 (by simp) _).sr1 (by simp) _).sr1 (by simp) _).sr1 (by simp) _).sr1 (by simp) _⟩
    ·rw[ca,Xz (by simp)]at ad;cases sm
     ·rw[XA rfl]at ad;have HX:Xq (V=⟨j,2,12,tf,tl,tc⟩):=ad.o;(go_upto_region 30 with fail);have N:Xq (FJ w (X7.setCell ⟨w.heap.size+2,2,none⟩ (int i64 12)) ⟨P,0,pf,pl,pc⟩ hp ⟨j,2,12,tf,tl,tc⟩):=ai.o.set 2 (int i64 12) rfl;obtain⟨X8,bo⟩:=aP (X7.setCell ⟨w.heap.size+2,2,none⟩ (int i64 12));rw[bo.o]at N ⊢;clear H I n J K Y u B C D E F Z f1 f2 f3 f4 f5 c z0 O Q z3 z4 z5 y0 y1 y2 y3 y4 y5 b;obtain⟨H,I,n,J,K,Y⟩:=N.o.prf;obtain⟨⟨u,B,C,D,E,F⟩,⟨Z,f1,f2,f3,f4,f5⟩,c⟩:=fA N.o.r;obtain⟨⟨z0,O,Q,z3,z4,z5⟩,⟨y0,y1,y2,y3,y4,y5⟩,b⟩:=fA N.o.z;simp only at u B C D E F;go_wp2;obtain⟨x0,x1,x2,x3,x4,x5⟩:=qP N.o.z (string j) (int i64 2) (int i64 12) (string tf) (int i64 tl) (int i64 tc);exact XG (v:=agg #[string j,int i64 2,int i64 12,string tf,int i64 tl,int i64 tc]) (by simp[results,results88,go_sem,x0,x1,x2,x3,x4,x5]) rfl ⟨by rw[HX.o];rfl,(((((N.o.Zbw.sr1 (by simp) _).sr1 (by simp) _).sr1 (by simp) _).sr1 (by simp) _).sr1 (by simp) _).sr1 (by simp) _⟩
     ·rw[Xz (by simp)]at ad;have HX:Xq (V=⟨j,4,0,⟨#[]⟩,0,0⟩):=ad.o;go_wp2;obtain⟨x0,x1,x2,x3,x4,x5⟩:=qP ai.o.z (string j) (int i64 4) (int i64 0) (string ⟨#[]⟩) (int i64 0) (int i64 0);exact XG (v:=agg #[string j,int i64 4,int i64 0,string ⟨#[]⟩,int i64 0,int i64 0]) (by simp[results,results88,go_sem,x0,x1,x2,x3,x4,x5]) rfl ⟨by rw[HX.o];rfl,(((((ai.o.Zbw.sr1 (by simp) _).sr1 (by simp) _).sr1 (by simp) _).sr1 (by simp) _).sr1 (by simp) _).sr1 (by simp) _⟩
  ·rw[hh,XA (by omega),YO]at ac;rw[hh];have d1:(0:Int)<=(k:Int):=by omega
   have d2:(k:Int)<P.length:=(by omega);have HX:Xq (V=⟨j,3,0,(cn P k).ZbD,(cn P k).ZbE,(cn P k).ZbF⟩):=ac.o;obtain⟨gP,av,ax,-,-,-,q3,q4,q5⟩:=cW.step (cW.Zbj HP.o al.o.Zbw) k hk;have HQ:Xq (∀G:World,aa [] w G->gP<G.heap.size/\G.cell? ⟨gP,k*6+3,none⟩=some (string (cn P k).ZbD)/\G.cell? ⟨gP,k*6+4,none⟩=some (int i64 (cn P k).ZbE)/\G.cell? ⟨gP,k*6+5,none⟩=some (int i64 (cn P k).ZbF)):=fun G kx=>by
    obtain⟨g2,n,h2,-,-,-,c3,c4,c5⟩:=cW.step (cW.Zbj HP.o kx) k hk;rw[av]at n;cases n
    exact⟨h2,c3,c4,c5⟩
   generalize (cn P k).ZbD=sf at *;generalize (cn P k).ZbE=sl at *;generalize (cn P k).ZbF=sc at *;clear ax q3 q4 q5;(go_upto_region 8 with fail);have R:Xq (FJ w (w3.setCell ⟨w.heap.size+2,1,none⟩ (int i64 3)) ⟨P,0,pf,pl,pc⟩ hp ⟨j,3,0,pf,pl,pc⟩):=al.o.set 1 (int i64 3) rfl;obtain⟨X4,bl⟩:=aP (w3.setCell ⟨w.heap.size+2,1,none⟩ (int i64 3));rw[bl.o]at R ⊢;clear H I n J K Y u B C D E F Z f1 f2 f3 f4 f5 c z0 O Q z3 z4 z5 y0 y1 y2 y3 y4 y5 b;obtain⟨H,I,n,J,K,Y⟩:=R.o.prf;obtain⟨⟨u,B,C,D,E,F⟩,⟨Z,f1,f2,f3,f4,f5⟩,c⟩:=fA R.o.r;obtain⟨⟨z0,O,Q,z3,z4,z5⟩,⟨y0,y1,y2,y3,y4,y5⟩,b⟩:=fA R.o.z;simp only at u B C D E F;simp only at H I n J K;obtain⟨ax,q3,q4,q5⟩:=HQ.o X4 R.o.Zbw;rw[av]at H;(go_upto_region 9 with fail);have M:Xq (FJ w (((X4.setCell ⟨w.heap.size+2,3,none⟩ (string sf)).setCell ⟨w.heap.size+2,4,none⟩ (int i64 sl)).setCell ⟨w.heap.size+2,5,none⟩ (int i64 sc)) ⟨P,0,pf,pl,pc⟩ hp ⟨j,3,0,sf,sl,sc⟩):=((R.o.set (r':=⟨j,3,0,sf,pl,pc⟩) 3 (string sf) rfl).set (r':=⟨j,3,0,sf,sl,pc⟩) 4 (int i64 sl) rfl).set 5 (int i64 sc) rfl;obtain⟨X5,bm⟩:=aP (((X4.setCell ⟨w.heap.size+2,3,none⟩ (string sf)).setCell ⟨w.heap.size+2,4,none⟩ (int i64 sl)).setCell ⟨w.heap.size+2,5,none⟩ (int i64 sc));rw[bm.o]at M ⊢;clear H I n J K Y u B C D E F Z f1 f2 f3 f4 f5 c z0 O Q z3 z4 z5 y0 y1 y2 y3 y4 y5 b;obtain⟨H,I,n,J,K,Y⟩:=M.o.prf;obtain⟨⟨u,B,C,D,E,F⟩,⟨Z,f1,f2,f3,f4,f5⟩,c⟩:=fA M.o.r;obtain⟨⟨z0,O,Q,z3,z4,z5⟩,⟨y0,y1,y2,y3,y4,y5⟩,b⟩:=fA M.o.z;simp only at u B C D E F;go_wp2;obtain⟨x0,x1,x2,x3,x4,x5⟩:=qP M.o.z (string j) (int i64 3) (int i64 0) (string sf) (int i64 sl) (int i64 sc);exact XG (v:=agg #[string j,int i64 3,int i64 0,string sf,int i64 sl,int i64 sc]) (by simp[results,results88,go_sem,x0,x1,x2,x3,x4,x5]) rfl ⟨by rw[HX.o];rfl,(((((M.o.Zbw.sr1 (by simp) _).sr1 (by simp) _).sr1 (by simp) _).sr1 (by simp) _).sr1 (by simp) _).sr1 (by simp) _⟩
structure gZ(w:World)(v:Nat)(fs:Fs)(h:Hd)(on:Bool)(p2 p3 p4:Value):Prop where
 d:w.heap[v]?=some (.cells #[slice h.ao fs.length h.cap,bool on,p2,p3,p4] 85)
 ZbH:aD w h (dq fs)
 far:h.Zbx≠some v
 le:fs.length<=4
theorem gZ.Zbj(a:gZ w b T H o x y k)(c:aa [] w n):gZ n b T H o x y k :=
 ⟨c.get a.d (by simp),a.ZbH.Zbj c,a.far,a.le⟩
theorem gZ.keptS{S:Xu}(a:gZ w b T H o x y k)(e:aa S w n)(g:b∉S)(f:∀q,H.Zbx=some q->q∉S):gZ n b T H o x y k :=
 ⟨e.get a.d g,a.ZbH.Zbo (fun q c=>e.block q (a.ZbH.lt c) (f q c)),a.far,a.le⟩
theorem aD.srcFi(o:aD w H (dq T)):pD w H.ao H.cap T:=by
 refine⟨?_,fun k l=>?_⟩
 ·rcases o.Zbu with ⟨e,b,_⟩ | ⟨g,c,m,n,d,-⟩
  ·have b:T.length=0:=b;omega
  ·exact d
 ·obtain⟨g,a,j,-⟩:=t9 o (show 0<T.length by omega);obtain⟨f,i⟩:=Ah T k l;exact⟨g,a,j,o.cell a (k*2) _ f,o.cell a (k*2+1) _ i⟩
set_option maxRecDepth 512
theorem OF(w:World) :
  Calls prog 27 #[] w fun e a=>e=returned (pointer (some ⟨w.heap.size,0,none⟩))/\gZ a w.heap.size [] ⟨none,0⟩ false (pointer none) (slice none 0 0) (slice none 0 0)/\aa [] w a:=by
 have b:Xq (gZ (w.alloc (.cells #[slice none 0 0,bool false,pointer none,slice none 0 0,slice none 0 0] 85)) w.heap.size [] ⟨none,0⟩ false (pointer none) (slice none 0 0) (slice none 0 0)):=⟨XD _ _,XE _ _ _ _,(by intro e;cases e),by simp⟩;go_enter func27,ntmps27;go_wp2;go_ret;exact⟨rfl,b.o,bH.alloc _⟩
def zbP(w:World)(v:Nat)(fs:Fs)(h:Hd)(n d:Xr)(p2 p3 p4:Value)(e:Ending)(w':World):Prop :=
 e=returned (int i64 (fY fs n d).1)/\((fY fs n d).1=0->∃h',gZ w' v (fY fs n d).2 h' false p2 p3 p4/\yV w w' v h h')/\((fY fs n d).1≠0->aa [] w w')
theorem gZ.off(a:gZ w b T H o x y k):gZ (w.setCell ⟨b,1,none⟩ (bool false)) b T H false x y k:=by
 have f:aa [b] w (w.setCell ⟨b,1,none⟩ (bool false)):=(aa.refl _ _).sl1 _;exact⟨by rw[ae a.d];rfl,a.ZbH.Zbo (fun q c=>f.block q (a.ZbH.lt c) (by simp;intro e;exact a.far (by rw[<-e];exact c))),a.far,a.le⟩
theorem yV.set(r:yV w n b H d)(i:Nat)(u:Value):yV w (n.setCell ⟨b,i,none⟩ u) b H d:=⟨r.Zbw.sl1 _,r.Zbx⟩
theorem gZ.grown{c:Fs}(a:gZ w b T H o x y k)(g:bL w n H d)(j:aD n d (dq c))(p:c.length<=4){m:Nat}(r:m=c.length):gZ (n.setCell ⟨b,0,none⟩ (slice d.ao m d.cap)) b c d o x y k:=by
 have l:=g.Zbw.get a.d (fun i=>a.far (aX i));have u:=ah a.d;have f:d.Zbx≠some b:=by
  rcases g.Zbx with e | ⟨q,e,i⟩
  ·rw[e];exact a.far
  ·rw[e];intro t;cases t;omega
 have s:aa [b] n (n.setCell ⟨b,0,none⟩ (slice d.ao m d.cap)):=(aa.refl _ _).sl1 _;subst r;exact⟨by rw[ae l];rfl,j.Zbo (fun q i=>s.block q (j.lt i) (by simp;intro e;exact f (by rw[<-e];exact i))),f,p⟩
theorem gZ.wrote(a:gZ w b T H o x y k)(c:H.ao=some ⟨D,0,none⟩)(g:v<T.length)(n d:Xr):gZ ((w.setCell ⟨D,v*2,none⟩ (string n)).setCell ⟨D,v*2+1,none⟩ (string d)).drew b (T.set v (n,d)) H o x y k:=by
 have f:H.Zbx=some D:=by unfold Hd.Zbx;rw[c];rfl
 have i:aa [D] w ((w.setCell ⟨D,v*2,none⟩ (string n)).setCell ⟨D,v*2+1,none⟩ (string d)).drew:=(((aa.refl _ _).sl1 _).sl1 _).drew;have j:aD ((w.setCell ⟨D,v*2,none⟩ (string n)).setCell ⟨D,v*2+1,none⟩ (string d)) H (dq (T.set v (n,d))):=by
  have:=(a.ZbH.putAt c (v*2) (string n)).putAt c (v*2+1) (string d);have e:(⟨(dq T).e,(dq T).size,(dq T).n,((dq T).xs.set (v*2) (string n)).set (v*2+1) (string d)⟩:eD)=dq (T.set v (n,d)):=by
   simp only[dq,List.length_set];rw[Mr T v n d g]
  rw[e]at this;exact this
 refine⟨?_,j.Zbj bH.drew,a.far,by rw[Yq];exact a.le⟩;rw[Yq];exact i.get a.d (by simp;intro e;exact a.far (by rw[f,e]))
set_option maxRecDepth 100000
theorem OX(b:Fs)(h:Hd)(R:Bool)(p2 p3 p4:Value)(n d:Xr)(w:World)(U:gZ w l b h R p2 p3 p4)(hn:n.size<=1073741824)(hd:d.size<=4294967296) :
  Calls prog 14 #[pointer (some ⟨l,0,none⟩),string n,string d] w fun e w'=>zbP w l b h n d p2 p3 p4 e w':=by
 have G:Xq (Calls prog 33 #[string n,string d] w fun e w'=>e=returned (int i64 (dE n d))/\w'=w):=Gw n d w hn hd;cases J:(dE n d==0)
 ·have s:Xq (fY b n d=(dE n d,b)):=by show _=_;unfold fY;rw[XA (by simpa using J)]
  generalize dE n d=c at *;go_enter func14,ntmps14;go_wp2_with (go_at_call 33;refine Xx G.o ?_;rintro e F ⟨rfl,a⟩;rw[a];clear a);go_ret;exact⟨by rw[s.o];rfl,by rw[s.o];exact⟨(fun q=>by rw[show c=0 from q]at J;cases J),fun _=>aa.refl _ _⟩⟩
 ·have p:dE n d=0:=by simpa using J
  rw[p]at G;obtain⟨W,H⟩:=aP (w.alloc (.cells #[string n,string d] 68));have kW:=dx H.o;have BW:=dC H.o;have t:=U.Zbj kW;have f:Xq _:=t;have O:W.cell? ⟨l,0,none⟩=some (slice h.ao b.length h.cap):=by rw[ab t.d];rfl
  have z0:=ah t.d;obtain⟨b0,b1⟩:=uY BW;have A:Xq _:=kW;have V:=U.le;have i:Xq _:=(oJ b h.ao h.cap n W (by omega) t.ZbH.srcFi);clear t U kW BW J;obtain⟨m,C⟩:=aP (b.length);rw[C.o]at O i V;rcases sP n b with y | ⟨k,L,y⟩
  ·rw[y]at i;by_cases hl:m=4
   ·have s:Xq (fY b n d=(1,b)):=(by show _=_;unfold fY;rw[Xz (by simpa using p),y,Xz (by omega),XA (by rw[C.o];omega)]);subst hl;clear y p;go_enter func14,ntmps14;(go_upto_region 5 with (go_at_call 33;refine Xx G.o ?_;rintro e F ⟨rfl,a⟩;rw[a];clear a));rw[H.o];go_wp2_with (go_at_call 34;refine Xx i.o ?_;rintro e F ⟨rfl,a⟩;rw[a];clear a);go_ret;exact⟨by rw[s.o];rfl,by rw[s.o];exact⟨(fun q=>by cases q),fun _=>A.o⟩⟩
   ·have s:Xq (fY b n d=(0,b++[(n,d)])):=(by show _=_;unfold fY;rw[Xz (by simpa using p),y,Xz (by omega),Xz (by rw[C.o];omega)]);have am:((m:Int)==4)=false:=(by simp;omega);have B:Xq ((dq b).n=m):=C.o;clear y p;obtain⟨i0,hi,Y,Z,ac⟩:=XV Ez;have hD:Xq (gZ (W.alloc (.cells #[string n,string d] 68)).drew l b h R p2 p3 p4):=f.o.Zbj ((aa.refl [] W).alloc _).drew;have s2:Xq (∀j u,([string n,string d]:List Value)[j]?=some u->(W.alloc (.cells #[string n,string d] 68)).drew.cell? ((⟨W.heap.size,0,none⟩:Addr).add j)=some u):=by
     intro j u hj;rw[bE];have L:(W.alloc (.cells #[string n,string d] 68)).drew.heap[W.heap.size]?=some (.cells #[string n,string d] 68):=XD _ _;rw[ab L];simpa using hj
    have s3:Xq (∀u∈([string n,string d]:List Value),u.oneCell'=true):=by intro u hu;simp only[List.mem_cons,List.not_mem_nil,or_false]at hu;rcases hu with rfl | rfl <;> rfl
    have s4:Xq ((dq b).n+1<=maxLen):=(by show _<=_;rw[B.o];unfold maxLen;omega);have s5:Xq (((dq b).n+1)*32<=140737488355328):=(by show _<=_;rw[B.o];omega);go_enter func14,ntmps14;(go_upto_region 5 with (go_at_call 33;refine Xx G.o ?_;rintro e F ⟨rfl,a⟩;rw[a];clear a));rw[H.o];(go_upto_region 9 with (go_at_call 34;refine Xx i.o ?_;rintro e F ⟨rfl,a⟩;rw[a];clear a));go_region_law (refine bB rfl (.tmp 41) (.tmp 43) 33 rfl i0 (agg #[string ⟨#[]⟩,string ⟨#[]⟩]) 32 h (dq b) underlying33 hi Y Z ac rfl (show 0<2 by omega) (by rw[B.o];simp[Act.eval]) hD.o.ZbH ⟨W.heap.size,0,none⟩ 1 1 [string n,string d] (by simp[Act.eval]) rfl s2.o s3.o XR s4.o s5.o ?_;intro Q r S M z K;have T:=(show Xq (bL W S h ⟨some ⟨Q,0,none⟩,r⟩) from(bL.Zbj ((aa.refl [] W).alloc _).drew).trans (bL.made z (by simpa using K)));have P:=T.o.Zbw.get f.o.d (fun hq=>f.o.far (aX hq));have e5:=zcW P 0;have e6:S.cell? ⟨l,0,none⟩=some (slice h.ao m h.cap):=(by rw[ab P,<-C.o];rfl);have z5:=ah P)
    all_goals
     have N:aD S ⟨some ⟨Q,0,none⟩,r⟩ (dq (b++[(n,d)])):=(by rw[<-Bb];exact M);have v:Xq _:=(f.o.grown (m:=(dq b).n+1) T.o N (by simp;rw[C.o];omega) (by simp[dq]));obtain⟨X,E⟩:=aP (S.setCell ⟨l,0,none⟩ (slice (some ⟨Q,0,none⟩) ((dq b).n+1) r));have x:=(show Xq (yV w X l h ⟨some ⟨Q,0,none⟩,r⟩) by rw[<-E.o];exact((yV.of (bL.Zbj A.o)).trans (yV.of T.o)).set 0 _);rw[E.o]at v ⊢;have x1:=zcW v.o.d 1;have x2:X.cell? ⟨l,1,none⟩=some (bool R):=(by rw[ab v.o.d];rfl);clear M z K P e5 e6 z5 N O E;go_wp2;go_ret;exact⟨by rw[s.o];rfl,by rw[s.o];exact⟨fun _=>⟨_,v.o.off,x.o.set 1 _⟩,fun q=>absurd rfl q⟩⟩
  ·have s:Xq (fY b n d=(0,b.set k (n,d))):=(by show _=_;unfold fY;rw[Xz (by simpa using p),y,XA (by omega),YO]);rw[y]at i;obtain⟨g,D,af,ag⟩:=t9 f.o.ZbH (show 0<b.length by omega);obtain⟨g',I,-,q0,q1⟩:=f.o.ZbH.srcFi.2 k L;rw[D]at I;cases I
   have v:Xq _:=f.o.wrote D L n d;have al:(k:Int)<(m:Int):=(by rw[C.o]at L;omega);have ai:(0:Int)<=(k:Int):=(by omega);have u0:W.frozen? ⟨g,k*2,none⟩=false/\W.frozen? ⟨g,k*2+1,none⟩=false:=by
    rcases f.o.ZbH.Zbu with ⟨e,-,-⟩ | ⟨g2,ad,e1,I,-⟩
    ·rw[e]at D;cases D
    ·rw[D]at e1;cases e1;exact⟨zcW I _,zcW I _⟩
   obtain⟨u0,u1⟩:=u0;have x:Xq (yV w ((W.setCell ⟨g,k*2,none⟩ (string n)).setCell ⟨g,k*2+1,none⟩ (string d)).drew l h h):=by
    have hb:h.Zbx=some g:=(by unfold Hd.Zbx;rw[D];rfl);have:=A.o.mono (S':=l :: h.Zbx.toList) (by simp);exact⟨((this.setCell (XQ (by rw[hb];simp)) _).setCell (XQ (by rw[hb];simp)) _).drew,XQ rfl⟩
   rw[D]at O i;clear y p;go_enter func14,ntmps14;(go_upto_region 5 with (go_at_call 33;refine Xx G.o ?_;rintro e F ⟨rfl,a⟩;rw[a];clear a));rw[H.o];(go_upto_region 10 with (go_at_call 34;refine Xx i.o ?_;rintro e F ⟨rfl,a⟩;rw[a];clear a));go_region;obtain⟨X,E⟩:=aP (((W.setCell ⟨g,k*2,none⟩ (string n)).setCell ⟨g,k*2+1,none⟩ (string d)).drew);rw[E.o]at v x ⊢;have x1:=zcW v.o.d 1;have x2:X.cell? ⟨l,1,none⟩=some (bool R):=(by rw[ab v.o.d];rfl);clear O E q0 q1 u0 u1;go_wp2;go_ret;exact⟨by rw[s.o];rfl,by rw[s.o];exact⟨fun _=>⟨_,v.o.off,x.o.set 1 _⟩,fun q=>absurd rfl q⟩⟩
def VZ(x:lF×Hd):List Value:=[slice x.2.ao x.1.st.length x.2.cap,int i64 x.1.why,string x.1.ZbD,int i64 x.1.ZbE,int i64 x.1.ZbF]
theorem V3(x:lF×Hd):(VZ x).length=5:=rfl
def ij(L:List (lF×Hd)):eD:=lu 122 5 VZ L
def ie(L:List j4):eD:=lu 38 6 lZ L
structure WR(w:World)(v b:Nat)(x0 x1:Value)(PS:List (lF×Hd))(aoP:Xt)(cP:Nat)(RS:List j4)(aoR:Xt)(cR:Nat):Prop where
 d:w.heap[v]?=some (.cells #[x0,x1,pointer (some ⟨b,0,none⟩),slice aoP PS.length cP,slice aoR RS.length cR] 85)
 p:cW w aoP 5 VZ PS
 q:∀x∈PS,cW w x.2.ao 6 mG x.1.st
 r:cW w aoR 6 lZ RS
theorem WR.Zbj{f:List (lF×Hd)}{c:Xt}{g:List j4}{e:Xt}{i:Nat}(a:WR w b D x y f c v g e i)(k:aa [] w n):WR n b D x y f c v g e i :=
 ⟨k.get a.d (by simp),a.p.Zbj k,fun l j=>(a.q l j).Zbj k,a.r.Zbj k⟩
def gi(RS:List j4)(a:Nat):j4:=RS.getD a Wm
theorem Fd(b:List j4)(a:Nat)(h:a<b.length):b[a]?=some (gi b a):=by
 unfold gi;rw[Xw,Xv h];rfl
def il(RS:List j4)(a:Nat):Bool:=((gi RS a).Zbk==4)||((gi RS a).Zbk==5)
theorem Py(A B:Value)(u:List (lF×Hd))(k:Xt)(v:Nat)(a:List j4)(m:Xt)(q:Nat)(w:World)(p:WR w i f A B u k v a m q)(x:l<a.length) :
  Calls prog 65 #[pointer (some ⟨i,0,none⟩),int i64 l] w fun e z=>e=returned (bool (il a l))/\z=w:=by
 obtain⟨g,rfl,E,c⟩:=p.r l _ (Fd a l x);have C:w.cell? ⟨g,l*6+1,none⟩=some (int i64 (gi a l).Zbk):=c 1 _ rfl;have D:w.cell? ⟨i,4,none⟩=some (slice (some ⟨g,0,none⟩) a.length q):=by rw[ab p.d];rfl
 have y:(l:Int)<a.length:=by omega
 have j:Xq (il a l=(((gi a l).Zbk==4)||((gi a l).Zbk==5))):=rfl;generalize (gi a l).Zbk=t at *;clear p c;cases n:(t==4)
 ·cases s:(t==5)
  ·have b:Xq (il a l=false):=(by show _=_;rw[j.o,n,s];rfl);go_enter func65,ntmps65;go_wp2;go_ret;exact⟨aH b.o.symm,rfl⟩
  ·have b:Xq (il a l=true):=(by show _=_;rw[j.o,n,s];rfl);go_enter func65,ntmps65;go_wp2;go_ret;exact⟨aH b.o.symm,rfl⟩
 ·have b:Xq (il a l=true):=by show _=_;rw[j.o,n];rfl
  go_enter func65,ntmps65;go_wp2;go_ret;exact⟨aH b.o.symm,rfl⟩
end Go.Proofs.YtpdholcaobgofaaGreat

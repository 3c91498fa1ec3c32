import Derived.Deep.RegionLaw
import Derived.Test.YtnbhnocdhbcbcaaGreatG20
namespace Go.Proofs.YtnbhnocdhbcbcaaGreat
open Go.RowKit Tryz
open Value IntKind Ending
set_option maxHeartbeats 0
variable{w n:World}{b o v:Nat}{x y k:Value}{D:jM}{l d:Hd}{S:Sl}{L:List Sl}{T:Fs}{i:Bool}(a f H:Nat)
structure fO where
 label:ByteArray
 Wk:Int
 why:Int
 file:ByteArray
 line:Int
 col:Int
def gx(r:fO):List Value:=[string r.label,int i64 r.Wk,int i64 r.why,string r.file,int i64 r.line,int i64 r.col]
theorem kV(r:fO):(gx r).length=6:=rfl
def sB(T:List Tk)(S:List Sm)(a:Nat)(P:List cW)(l:ByteArray)(t:Tk)(M:List (List ByteArray)):fO :=
 if(dC P (P.length-1)==0)=false then⟨l,2,11,t.file,t.line,t.col⟩
 else if kY (a8 T S a) (M.getD (P.length-1) [])=false then⟨l,2,12,t.file,t.line,t.col⟩ else⟨l,4,0,⟨#[]⟩,0,0⟩
def nE(T:List Tk)(S:List Sm)(a:Nat)(P:List cW)(l:ByteArray)(t:Tk):Nat->Nat->List (List ByteArray)->fO
 | 0,_,M=>sB T S a P l t M
 | n+1,i,M=>if((ig T S a P i M).2==0)=false then⟨l,2,(ig T S a P i M).2,(bK P i).file,(bK P i).line,(bK P i).col⟩ else nE T S a P l t n (i+1) (M++[(ig T S a P i M).1])
def lh(T:List Tk)(S:List Sm)(a:Nat)(p:jM)(t:Tk):fO :=
 if(p.why==0)=false then⟨bN T (aq S a),2,p.why,p.file,p.line,p.col⟩
 else if 0<=gN p.st then⟨bN T (aq S a),3,p.why,(bK p.st (gN p.st).toNat).file,(bK p.st (gN p.st).toNat).line,(bK p.st (gN p.st).toNat).col⟩
 else nE T S a p.st (bN T (aq S a)) t p.st.length 0 []
theorem oB{o p q:Value}(h:w.heap[b]?=some (.cells #[x,y,k,o,p,q] 38))(a c d e f g:Value) :
  (w.setCell ⟨b,0,none⟩ a).cell? ⟨b,0,none⟩=some a/\((w.setCell ⟨b,0,none⟩ a).setCell ⟨b,1,none⟩ c).cell? ⟨b,1,none⟩=some c/\(((w.setCell ⟨b,0,none⟩ a).setCell ⟨b,1,none⟩ c).setCell ⟨b,2,none⟩ d).cell? ⟨b,2,none⟩=some d/\((((w.setCell ⟨b,0,none⟩ a).setCell ⟨b,1,none⟩ c).setCell ⟨b,2,none⟩ d).setCell ⟨b,3,none⟩ e).cell? ⟨b,3,none⟩=some e /\
  (((((w.setCell ⟨b,0,none⟩ a).setCell ⟨b,1,none⟩ c).setCell ⟨b,2,none⟩ d).setCell ⟨b,3,none⟩ e).setCell ⟨b,4,none⟩ f).cell? ⟨b,4,none⟩=some f/\((((((w.setCell ⟨b,0,none⟩ a).setCell ⟨b,1,none⟩ c).setCell ⟨b,2,none⟩ d).setCell ⟨b,3,none⟩ e).setCell ⟨b,4,none⟩ f).setCell ⟨b,5,none⟩ g).cell? ⟨b,5,none⟩=some g:=by
 have i:=ah h 0 a;have j:=ah i 1 c;have l:=ah j 2 d;have m:=ah l 3 e;have n:=ah m 4 f;have r:=ah n 5 g;exact⟨by rw[aj i];rfl,by rw[aj j];rfl,by rw[aj l];rfl,by rw[aj m];rfl,by rw[aj n];rfl,by rw[aj r];rfl⟩
theorem eM{r:fO}(h:w.heap[b]?=some (.cells (gx r).toArray 38)) :
  (w.cell? ⟨b,0,none⟩=some (string r.label)/\w.cell? ⟨b,1,none⟩=some (int i64 r.Wk)/\w.cell? ⟨b,2,none⟩=some (int i64 r.why)/\w.cell? ⟨b,3,none⟩=some (string r.file)/\w.cell? ⟨b,4,none⟩=some (int i64 r.line)/\w.cell? ⟨b,5,none⟩=some (int i64 r.col)) /\
  (w.frozen? ⟨b,0,none⟩=false/\w.frozen? ⟨b,1,none⟩=false/\w.frozen? ⟨b,2,none⟩=false/\w.frozen? ⟨b,3,none⟩=false/\w.frozen? ⟨b,4,none⟩=false/\w.frozen? ⟨b,5,none⟩=false)/\b<w.heap.size:=by
 refine⟨⟨?_,?_,?_,?_,?_,?_⟩,⟨am h 0,am h 1,am h 2,am h 3,am h 4,am h 5⟩,ae h⟩
 all_goals (rw[aj h];rfl)
def OZ:fO:=⟨⟨#[]⟩,0,0,⟨#[]⟩,0,0⟩
def Ld(w:World)(r:fO)(e:Ending)(w':World):Prop:=e=returned (agg (gx r).toArray)/\aa [] w w'
structure La(T:List Tk)(S:List Sm)(a:Nat)(p:jM):Prop where
 le:p.st.length<=100000000
 nd:NN p.st
 st:p.why=0->0<p.st.length/\∀i,i<p.st.length->(bK p.st i).ref≠-1->Lg T S a p.st i
structure BA(w wr:World)(p:jM)(hp:Hd)(r:fO):Prop where
 e:wr.heap[w.heap.size]?=some (.cells #[slice hp.ao p.st.length hp.cap,int i64 p.why,string p.file,int i64 p.line,int i64 p.col] 122)
 z:wr.heap[w.heap.size+1]?=some (.cells (gx OZ).toArray 38)
 r:wr.heap[w.heap.size+2]?=some (.cells (gx r).toArray 38)
 kept:aa [] w wr
theorem BA.Wj{b:World}{r:fO}(a:BA w n D l r)(k:aa [] n b):BA w b D l r:=⟨k.get a.e (by simp),k.get a.z (by simp),k.get a.r (by simp),a.kept.trans k⟩
theorem BA.set{r r':fO}(a:BA w n D l r)(i:Nat)(v:Value)(h:(gx r).set i v=gx r'):BA w (n.setCell ⟨w.heap.size+2,i,none⟩ v) D l r':=by
 have k:aa [w.heap.size+2] n (n.setCell ⟨w.heap.size+2,i,none⟩ v):=(aa.refl _ _).setCell (R4 (by simp)) _;refine⟨k.get a.e (by simp),k.get a.z (by simp),?_,a.kept.setCell (RZ (by simp)) _⟩;rw[ah a.r,<-h];simp
theorem BA.prf{r:fO}(a:BA w n D l r):n.cell? ⟨w.heap.size,0,none⟩=some (slice l.ao D.st.length l.cap)/\n.cell? ⟨w.heap.size,1,none⟩=some (int i64 D.why)/\n.cell? ⟨w.heap.size,2,none⟩=some (string D.file)/\n.cell? ⟨w.heap.size,3,none⟩=some (int i64 D.line)/\n.cell? ⟨w.heap.size,4,none⟩=some (int i64 D.col)/\w.heap.size<n.heap.size :=
 ⟨by rw[aj a.e];rfl,by rw[aj a.e];rfl,by rw[aj a.e];rfl,by rw[aj a.e];rfl,by rw[aj a.e];rfl,ae a.e⟩
theorem QY(h:oO w S):∃q o,S.ao=some ⟨q,o,none⟩/\q<w.heap.size:=by
 obtain⟨g,e,a,-⟩:=h.x 0 _ (mO S.L 0 h.pos);exact⟨g,0,e,a⟩
theorem Nd(g:bI w n l d)(a:oO w S)(j:∀q o,S.ao=some ⟨q,o,none⟩->l.blk≠some q):oO n S:=by
 refine⟨⟨fun k x f=>?_,a.ok.nil,a.ok.le⟩,fun k x f=>?_,a.pos,a.le⟩
 ·obtain⟨q,o,e,b,c⟩:=a.ok.src k x f;exact⟨q,o,e,R6 b g.kept.size,by rw[Sh (g.kept.block q b (fun i=>j q o e (aQ i)))];exact c⟩
 ·obtain⟨q,e,b,c⟩:=a.x k x f;exact⟨q,e,R6 b g.kept.size,by rw[Sh (g.kept.block q b (fun i=>j q 0 e (aQ i)))];exact c⟩
theorem O3(g:bI w n l d)(a:∀S∈L,oO w S)(e:∀S∈L,∀q o,S.ao=some ⟨q,o,none⟩->l.blk≠some q)(b:oO w S)(m:∀q o,S.ao=some ⟨q,o,none⟩->l.blk≠some q):∀t∈L++[S],oO n t:=fun t c=>by
 rcases SB.1 c with c | c
 ·exact Nd g (a t c) (e t c)
 ·rw[Se.1 c];exact Nd g b m
theorem NR(g:bI w n l d)(a:∀S∈L,oO w S)(r:∀S∈L,∀q o,S.ao=some ⟨q,o,none⟩->l.blk≠some q)(b:oO w S)(m:∀q o,S.ao=some ⟨q,o,none⟩->l.blk≠some q):∀t∈L++[S],∀q o,t.ao=some ⟨q,o,none⟩->d.blk≠some q:=fun t c q o e j=>by
 have f:oO w t/\l.blk≠some q:=by
  rcases SB.1 c with c | c
  ·exact⟨a t c,r t c q o e⟩
  ·rw[Se.1 c]at e ⊢;exact⟨b,m q o e⟩
 rcases g.blk with i | ⟨v,i,p⟩
 ·exact f.2 (by rw[<-i];exact j)
 ·rw[i]at j;cases j;obtain⟨x,u,k,s⟩:=QY f.1;rw[e]at k;cases k
  omega
set_option maxRecDepth 100000
theorem Bj(T:List Tk)(ar:Option Addr)(cT:Nat)(S:List Sm)(ap:Option Addr)(cS:Nat)(p:jM)(hp:Hd)(w:World)(hD:fZ w a T ar cT S ap cS)(ok:oP T S f)(hB:KT T S f)(ck:PE T S f)(hn:f<S.length)(hE:dG T (aq S f).h)(dz:(aq S f).a<T.length)(d0:(aq S f).z=H+1)(d3:H<T.length)(hP:cG w hp.ao 6 lq p.st)(a7:La T S f p) :
  Calls prog 90 #[pointer (some ⟨a,0,none⟩),int i64 f,agg #[slice hp.ao p.st.length hp.cap,int i64 p.why,string p.file,int i64 p.line,int i64 p.col]] w fun e w'=>Ld w (lh T S f p (T.getD H gB)) e w':=by
 obtain⟨W,HW⟩:∃W,Hid (((w.alloc (.cells #[slice hp.ao p.st.length hp.cap,int i64 p.why,string p.file,int i64 p.line,int i64 p.col] 122)).alloc (.cells #[string ⟨#[]⟩,int i64 0,int i64 0,string ⟨#[]⟩,int i64 0,int i64 0] 38)).alloc (.cells #[string ⟨#[]⟩,int i64 2,int i64 p.why,string p.file,int i64 p.line,int i64 p.col] 38)=W):=⟨_,rfl⟩
 have V0:BA w W p hp ⟨⟨#[]⟩,2,p.why,p.file,p.line,p.col⟩:=by
  obtain⟨W1,a3⟩:∃W1,W1=w.alloc (.cells #[slice hp.ao p.st.length hp.cap,int i64 p.why,string p.file,int i64 p.line,int i64 p.col] 122):=⟨_,rfl⟩
  obtain⟨W2,a4⟩:∃W2,W2=W1.alloc (.cells #[string ⟨#[]⟩,int i64 0,int i64 0,string ⟨#[]⟩,int i64 0,int i64 0] 38):=⟨_,rfl⟩
  have N:W1.heap.size=w.heap.size+1:=by rw[a3];simp
  have O:W2.heap.size=w.heap.size+2:=by rw[a4];simp[N]
  have k0:=fN a3.symm;have k1:=fN a4.symm;have F:=fY a3.symm;have G:W2.heap[w.heap.size+1]?=some (.cells (gx OZ).toArray 38):=by rw[a4,<-N];exact R2 _ _
  rw[<-HW.out,<-a3,<-a4];have k2:aa [] W2 (W2.alloc (.cells #[string ⟨#[]⟩,int i64 2,int i64 p.why,string p.file,int i64 p.line,int i64 p.col] 38)):=(aa.refl [] _).alloc _;exact⟨k2.get (k1.get F (by simp)) (by simp),k2.get G (by simp),by rw[<-O];exact R2 _ _,(k0.trans k1).trans k2⟩
 have a1:Hid _:=V0;have HD:Hid _:=hD;have cH:Hid _:=ok;have HP:Hid _:=hP;have d7:=ok.sm;have d8:=ok.tm;have cA:Hid _:=hB;have c6:Hid _:=ck;have cP:Hid _:=hE;have a2:=a7.le;have bk:Hid _:=a7.nd;have bp:Hid _:=a7.st;have b5:Hid (Calls prog 88 #[pointer (some ⟨a,0,none⟩),int i64 f] W fun e w'=>e=returned (string (bN T (aq S f)))/\aa [] W w'):=by
  have:=qI a f T ar cT S ap cS W (hD.Wj V0.kept) hn (by rw[bQ S f hn];exact dz);rw[bQ S f hn]at this;exact this
 have ac:Hid (lh T S f p (T.getD H gB)=if(p.why==0)=false then⟨bN T (aq S f),2,p.why,p.file,p.line,p.col⟩
  else if 0<=gN p.st then⟨bN T (aq S f),3,p.why,(bK p.st (gN p.st).toNat).file,(bK p.st (gN p.st).toNat).line,(bK p.st (gN p.st).toNat).col⟩
  else nE T S f p.st (bN T (aq S f)) (T.getD H gB) p.st.length 0 []):=rfl
 have cc:Hid (∀E:World,aa [] w E->∃gT gs,ar=some ⟨gT,0,none⟩/\ap=some ⟨gs,0,none⟩/\gT<E.heap.size/\gs<E.heap.size/\a<E.heap.size/\E.cell? ⟨a,0,none⟩=some (slice ar T.length cT)/\E.cell? ⟨a,1,none⟩=some (slice ap S.length cS)/\E.cell? ⟨gs,f*4+1,none⟩=some (int i64 ((H:Int)+1))/\E.cell? ⟨gT,H*5+2,none⟩=some (string (T.getD H gB).file)/\E.cell? ⟨gT,H*5+3,none⟩=some (int i64 (T.getD H gB).line)/\E.cell? ⟨gT,H*5+4,none⟩=some (int i64 (T.getD H gB).col)):=fun E kx=>by
  have hd:=fZ.Wj HD.out kx;obtain⟨c0,c1,hb⟩:=hd.cells;obtain⟨gs,I,bx,-,q1,-,-⟩:=hd.s.2 f S[f] (RQ hn);rw[bQ S f hn,d0,show((H+1:Nat):Int)=(H:Int)+1 by omega]at q1;obtain⟨gT,J,bw,-,-,t2,t3,t4⟩:=hd.t.2 H _ (iK T H d3);exact⟨gT,gs,J,I,bw,bx,hb,c0,c1,q1,t2,t3,t4⟩
 have bj:Hid (∀E,aa [] w E->Calls prog 131 #[agg #[slice hp.ao p.st.length hp.cap,int i64 p.why,string p.file,int i64 p.line,int i64 p.col]] E fun e w'=>e=returned (int i64 (gN p.st))/\aa [] E w'):=fun E kx=>Jb p.st hp.ao hp.cap p.why p.file p.line p.col E (hP.Wj kx) a2;have co:=EC p.st;obtain⟨iL,dv,cx,cy,cz⟩:=Sr ED;clear hD ok hB ck hE hP a7 V0;obtain⟨l,Hl⟩:∃l,Hid (bN T (aq S f)=l):=⟨_,rfl⟩
 rw[Hl.out]at b5 ac;obtain⟨V,c7⟩:∃V,Hid (lh T S f p (T.getD H gB)=V):=⟨_,rfl⟩
 rw[c7.out]at ac ⊢;obtain⟨P,y,pf,pl,pc⟩:=p;simp only at ac bj co a2 bk bp HP;obtain⟨F,G,j,I,J,U⟩:=a1.out.prf;obtain⟨⟨m,n,u,B,C,D⟩,⟨Y,Z,f2,f3,f4,f5⟩,c⟩:=eM a1.out.r;obtain⟨⟨z0,N,O,z3,z4,z5⟩,⟨y0,y1,y2,y3,y4,y5⟩,b⟩:=eM a1.out.z;simp only at m n u B C D;go_enter func90,ntmps90;go_upto_region 2 with fail
 rw[HW.out];go_upto_region 3 with (go_at_call 88;refine R0 b5.out ?_;rintro e w1 ⟨rfl,k1⟩;have V1:=a1.out.Wj k1;obtain⟨⟨u0,-⟩,⟨u1,-⟩,u2⟩:=eM V1.r)
 have ag:Hid (BA w (w1.setCell ⟨w.heap.size+2,0,none⟩ (string l)) ⟨P,y,pf,pl,pc⟩ hp ⟨l,2,y,pf,pl,pc⟩):=V1.set 0 (string l) rfl;obtain⟨X2,ch⟩:∃X2,Hid (w1.setCell ⟨w.heap.size+2,0,none⟩ (string l)=X2):=⟨_,rfl⟩
 rw[ch.out]at ag ⊢;clear V1 u0 u1 u2 k1 ch;clear F G j I J U m n u B C D Y Z f2 f3 f4 f5 c z0 N O z3 z4 z5 y0 y1 y2 y3 y4 y5 b;obtain⟨F,G,j,I,J,U⟩:=ag.out.prf;obtain⟨⟨m,n,u,B,C,D⟩,⟨Y,Z,f2,f3,f4,f5⟩,c⟩:=eM ag.out.r;obtain⟨⟨z0,N,O,z3,z4,z5⟩,⟨y0,y1,y2,y3,y4,y5⟩,b⟩:=eM ag.out.z;simp only at m n u B C D;simp only at F G j I J;cases hy:(y==0)
 ·rw[hy,RY rfl]at ac;have HX:Hid (V=⟨l,2,y,pf,pl,pc⟩):=ac.out;go_wp2;obtain⟨x0,x1,x2,x3,x4,x5⟩:=oB ag.out.z (string l) (int i64 2) (int i64 y) (string pf) (int i64 pl) (int i64 pc);exact Sa (v:=agg #[string l,int i64 2,int i64 y,string pf,int i64 pl,int i64 pc]) (by simp[results,results90,go_sem,x0,x1,x2,x3,x4,x5]) rfl ⟨by rw[HX.out];rfl,(((((ag.out.kept.setCell (RZ (by simp)) _).setCell (RZ (by simp)) _).setCell (RZ (by simp)) _).setCell (RZ (by simp)) _).setCell (RZ (by simp)) _).setCell (RZ (by simp)) _⟩
 ·rw[hy,RU (by simp)]at ac;have d2:y=0:=by simpa using hy
  subst d2;have b4:Hid _:=bj.out X2 ag.out.kept;go_upto_region 6 with (go_at_call 131;refine R0 b4.out ?_;rintro e w3 ⟨rfl,k3⟩)
  have al:Hid _:=ag.out.Wj k3;clear k3;clear F G j I J U m n u B C D Y Z f2 f3 f4 f5 c z0 N O z3 z4 z5 y0 y1 y2 y3 y4 y5 b;obtain⟨F,G,j,I,J,U⟩:=al.out.prf;obtain⟨⟨m,n,u,B,C,D⟩,⟨Y,Z,f2,f3,f4,f5⟩,c⟩:=eM al.out.r;obtain⟨⟨z0,N,O,z3,z4,z5⟩,⟨y0,y1,y2,y3,y4,y5⟩,b⟩:=eM al.out.z;simp only at m n u B C D;simp only at F G j I J;rcases co with ⟨hh,cp⟩ | ⟨k,hk,hh⟩
  ·rw[hh,RU (by omega)]at ac;rw[hh];obtain⟨d6,cu⟩:=bp.out (by trivial);have c2:Hid (∀i,i<P.length->Lg T S f P i):=fun i hi=>cu i hi (cp i hi);have cE:Hid (jd w3 w3 ⟨none,0⟩ (lP [])):=⟨Sb _ _ _ _,(by intro k hk;cases hk),aa.refl _ _⟩;have bc:Hid (nE T S f P l (T.getD H gB) (P.length-0) 0 (([]:List Sl).map (·.L))=V):=ac.out.symm;obtain⟨tz,df⟩:∃tz,Hid (T.getD H gB=tz):=⟨_,rfl⟩
   rw[df.out]at cc bc;clear cu cp hh ac bp bj b4;go_wp2;clear F G j I J U m n u B C D Y Z f2 f3 f4 f5 c z0 N O z3 z4 z5 y0 y1 y2 y3 y4 y5 b
   go_loopg [9,10] P.length (fun g o iv wr=>∃(i:Nat) (h:Hd) (A:List Sl),i<=P.length/\g=P.length-i/\o=slice h.ao A.length h.cap/\iv=int i64 i/\Hid (A.length=i)/\Hid (∀s∈A,oO wr s)/\Hid (∀s∈A,∀q o,s.ao=some ⟨q,o,none⟩->h.blk≠some q)/\Hid (nE T S f P l tz (P.length-i) i (A.map (·.L))=V)/\Hid (jd w3 wr h (lP A)))
   case atStart=>exact⟨0,⟨none,0⟩,[],by omega,rfl,rfl,rfl,rfl,(fun s hs=>by cases hs),(fun s hs=>by cases hs),bc,cE⟩
   case round =>
    obtain⟨i,h,A,hi,hg,rfl,rfl,ax,be,bf,HG,az⟩:=hrel;have an:Hid _:=al.out.Wj az.out.kept;have a0:Hid _:=an.out.kept;obtain⟨F,G,j,I,J,U⟩:=an.out.prf;obtain⟨⟨m,n,u,B,C,D⟩,⟨Y,Z,f2,f3,f4,f5⟩,c⟩:=eM an.out.r;obtain⟨⟨z0,N,O,z3,z4,z5⟩,⟨y0,y1,y2,y3,y4,y5⟩,b⟩:=eM an.out.z;simp only at m n u B C D;simp only at F G j I J;by_cases a6:i<P.length
    ·have d9:(i:Int)<P.length:=(by omega);have bo:Hid _:=Kh a f i T ar cT S ap cS P hp.ao hp.cap 0 pf pl pc A h.ao h.cap wr (fZ.Wj HD.out a0.out) cH.out cA.out c6.out hn (cG.Wj HP.out a0.out) a2 bk.out a6 (c2.out i a6) (az.out.own.srcG v9) be.out ax.out;obtain⟨d,hd⟩:∃d,P.length-i=d+1:=⟨P.length-i-1,by omega⟩
     have af:Hid (nE T S f P l tz (d+1) i (A.map (·.L))=V):=(by rw[<-hd];exact HG);rw[nE]at af;have c9:Hid (P.length-(i+1)=d):=by show _=_;omega
     clear hd HG;obtain⟨SR,cX⟩:∃SR,Hid (ig T S f P i (A.map (·.L))=SR):=⟨_,rfl⟩
     rw[cX.out]at bo af;obtain⟨sE,sW⟩:=SR;simp only at af;(go_upto_region 15 with (go_at_call 132;refine R0 bo.out ?_;rintro e w4 ⟨s,rfl,cs,bd,ct,k4⟩));have Q:Hid _:=an.out.Wj k4;have cf:Hid _:=az.out.Wj k4;have ba:Hid (∀s∈A,oO w4 s):=fun s hs=>(be.out s hs).Wj k4;have cb:Hid (s.L=sE):=cs;have cR:Hid ((sW==0)=true->oO w4 s):=bd;have ca:Hid (∀q o,s.ao=some ⟨q,o,none⟩->h.blk≠some q):=fun q o e hb=>by
      rcases ct with hm | hf
      ·exact bf.out s hm q o e hb
      ·have:=hf q o e;have:=az.out.own.lt hb;omega
     clear cs bd ct k4 bo;clear F G j I J U m n u B C D Y Z f2 f3 f4 f5 c z0 N O z3 z4 z5 y0 y1 y2 y3 y4 y5 b;obtain⟨F,G,j,I,J,U⟩:=Q.out.prf;obtain⟨⟨m,n,u,B,C,D⟩,⟨Y,Z,f2,f3,f4,f5⟩,c⟩:=eM Q.out.r;obtain⟨⟨z0,N,O,z3,z4,z5⟩,⟨y0,y1,y2,y3,y4,y5⟩,b⟩:=eM Q.out.z;simp only at m n u B C D;simp only at F G j I J;cases hw:(sW==0)
     ·rw[hw,RY rfl]at af;have HX:Hid (V=⟨l,2,sW,(bK P i).file,(bK P i).line,(bK P i).col⟩):=af.out.symm;obtain⟨gP,aS,aT,-,-,-,q3,q4,q5⟩:=cG.step (cG.Wj HP.out Q.out.kept) i a6;have HQ:Hid (∀E:World,aa [] w E->gP<E.heap.size/\E.cell? ⟨gP,i*6+3,none⟩=some (string (bK P i).file)/\E.cell? ⟨gP,i*6+4,none⟩=some (int i64 (bK P i).line)/\E.cell? ⟨gP,i*6+5,none⟩=some (int i64 (bK P i).col)):=fun E kx=>by
       obtain⟨g2,j,h2,-,-,-,c3,c4,c5⟩:=cG.step (cG.Wj HP.out kx) i a6;rw[aS]at j;cases j
       exact⟨h2,c3,c4,c5⟩
      generalize (bK P i).file=sf at *;generalize (bK P i).line=sl at *;generalize (bK P i).col=sc at *;clear aT q3 q4 q5;(go_upto_region 17 with fail);have K:Hid (BA w (w4.setCell ⟨w.heap.size+2,2,none⟩ (int i64 sW)) ⟨P,0,pf,pl,pc⟩ hp ⟨l,2,sW,pf,pl,pc⟩):=Q.out.set 2 (int i64 sW) rfl;obtain⟨X4,br⟩:∃X4,Hid (w4.setCell ⟨w.heap.size+2,2,none⟩ (int i64 sW)=X4):=⟨_,rfl⟩
      rw[br.out]at K ⊢;clear F G j I J U m n u B C D Y Z f2 f3 f4 f5 c z0 N O z3 z4 z5 y0 y1 y2 y3 y4 y5 b;obtain⟨F,G,j,I,J,U⟩:=K.out.prf;obtain⟨⟨m,n,u,B,C,D⟩,⟨Y,Z,f2,f3,f4,f5⟩,c⟩:=eM K.out.r;obtain⟨⟨z0,N,O,z3,z4,z5⟩,⟨y0,y1,y2,y3,y4,y5⟩,b⟩:=eM K.out.z;simp only at m n u B C D;simp only at F G j I J;obtain⟨aT,q3,q4,q5⟩:=HQ.out X4 K.out.kept;rw[aS]at F;(go_upto_region 18 with fail);have R:Hid (BA w (((X4.setCell ⟨w.heap.size+2,3,none⟩ (string sf)).setCell ⟨w.heap.size+2,4,none⟩ (int i64 sl)).setCell ⟨w.heap.size+2,5,none⟩ (int i64 sc)) ⟨P,0,pf,pl,pc⟩ hp ⟨l,2,sW,sf,sl,sc⟩):=((K.out.set (r':=⟨l,2,sW,sf,pl,pc⟩) 3 (string sf) rfl).set (r':=⟨l,2,sW,sf,sl,pc⟩) 4 (int i64 sl) rfl).set 5 (int i64 sc) rfl;obtain⟨X5,bs⟩:∃X5,Hid (((X4.setCell ⟨w.heap.size+2,3,none⟩ (string sf)).setCell ⟨w.heap.size+2,4,none⟩ (int i64 sl)).setCell ⟨w.heap.size+2,5,none⟩ (int i64 sc)=X5):=⟨_,rfl⟩
      rw[bs.out]at R ⊢;clear F G j I J U m n u B C D Y Z f2 f3 f4 f5 c z0 N O z3 z4 z5 y0 y1 y2 y3 y4 y5 b;obtain⟨F,G,j,I,J,U⟩:=R.out.prf;obtain⟨⟨m,n,u,B,C,D⟩,⟨Y,Z,f2,f3,f4,f5⟩,c⟩:=eM R.out.r;obtain⟨⟨z0,N,O,z3,z4,z5⟩,⟨y0,y1,y2,y3,y4,y5⟩,b⟩:=eM R.out.z;simp only at m n u B C D;go_wp2;obtain⟨x0,x1,x2,x3,x4,x5⟩:=oB R.out.z (string l) (int i64 2) (int i64 sW) (string sf) (int i64 sl) (int i64 sc);exact Sa (v:=agg #[string l,int i64 2,int i64 sW,string sf,int i64 sl,int i64 sc]) (by simp[results,results90,go_sem,x0,x1,x2,x3,x4,x5]) rfl ⟨by rw[HX.out];rfl,(((((R.out.kept.setCell (RZ (by simp)) _).setCell (RZ (by simp)) _).setCell (RZ (by simp)) _).setCell (RZ (by simp)) _).setCell (RZ (by simp)) _).setCell (RZ (by simp)) _⟩
     ·rw[hw,RU (by simp)]at af;have d1:sW=0:=(by simpa using hw);subst d1;have b6:Hid _:=cR.out rfl;rw[<-cb.out]at af;have cF:Hid (([slice s.ao sE.length s.cap]:List Value)=FC s):=by show _=_;unfold FC;rw[cb.out]
      have dl:=cf.out.own;have cL:Hid ((lP A).n<=900000000):=(by show A.length<=_;rw[ax.out];omega);go_wp2_with (at_builtin;refine ci _ rfl (.tmp 71) (.tmp 73) 218 rfl iL (slice none 0 0) 24 h (lP A) [slice s.ao sE.length s.cap] underlying218 dv cx cy cz rfl So rfl dl cL.out (by omega) rfl rfl (by simp[Value.oneCell']) ?_;intro h7 w7 bz a5;rw[cF.out,qQ]at bz;have cB:Hid _:=cf.out.Wt a5 bz;have bT:Hid _:=O3 a5 ba.out bf.out b6.out ca.out;have b0:Hid _:=NR a5 ba.out bf.out b6.out ca.out;clear bz a5);go_roundg (P.length-(i+1))
      case measure=>omega
      case rel=>exact⟨i+1,h7,A++[s],by omega,rfl,by simp[lP,kT],by go_num,by show _=_;rw[R9,ax.out];rfl,bT,b0,by rw[c9.out,SF];exact af,cB⟩
    ·obtain⟨q,hq⟩:∃q,P.length=q+1:=⟨P.length-1,by omega⟩
     have d4:¬(i:Int)<P.length:=(by omega);have eg:IntKind.i64.wrap ((P.length:Int)-1)=(q:Int):=(by rw[TE];omega);have af:Hid (sB T S f P l tz (A.map (·.L))=V):=(by have:=HG.out;rw[show P.length-i=0 by omega,nE]at this;exact this);have ad:Hid (sB T S f P l tz (A.map (·.L))=if(dC P q==0)=false then⟨l,2,11,tz.file,tz.line,tz.col⟩ else if kY (a8 T S f) (gy A q).L=false then⟨l,2,12,tz.file,tz.line,tz.col⟩ else⟨l,4,0,⟨#[]⟩,0,0⟩):=(by show _=_;unfold sB;rw[show P.length-1=q by omega,xj A q (by rw[ax.out];omega)]);have cq:q<A.length:=(by rw[ax.out];omega);have d5:(q:Int)<A.length:=(by omega);have dT:q<P.length:=(by omega);have ef:(0:Int)<=(q:Int):=(by omega);clear hq HG;rw[af.out]at ad;have b3:Hid _:=(um P hp.ao hp.cap 0 pf pl pc a2 bk.out (q+1) q wr (by omega) dT (cG.Wj HP.out a0.out));generalize dC P q=bg at *;have b2:Hid (∀E,aa [] w E->Calls prog 73 #[pointer (some ⟨a,0,none⟩),int i64 (f:Int)] E fun e w'=>∃h',e=returned (slice h'.ao (a8 T S f).length h'.cap)/\yP E w' h' (a8 T S f)):=fun E kx=>by
      have:=l6 a f T ar cT S ap cS E (fZ.Wj HD.out kx) hn (by omega) (by rw[bQ S f hn];exact cP.out);rw[bQ S f hn]at this;exact this
     have dp:(a8 T S f).length<=T.length:=lI T _;obtain⟨X,c8⟩:∃X,Hid (a8 T S f=X):=⟨_,rfl⟩
     rw[c8.out]at b2 dp ad;(go_upto_region 22 with (go_at_call 133;refine R0 b3.out ?_;rintro e w4 ⟨rfl,k4⟩));have b1:Hid _:=b2.out w4 (a0.out.trans k4);(go_upto_region 23 with (go_at_call 73;refine R0 b1.out ?_;rintro e w5 ⟨h5,rfl,x5⟩));have k5:=k4.trans x5.kept;have K:Hid _:=an.out.Wj k5;obtain⟨gA,dk,dt,dg⟩:=cG.sl ((az.out.Wj k5).own.srcG v9) q cq;have cV:Hid _:=(be.out (gy A q) (j7 A q cq)).Wj k5;have bl:Hid _:=(Dp X (gy A q).L h5.ao (gy A q).ao h5.cap (gy A q).cap w5 x5.own.srcX cV.out.x (by omega));generalize gy A q=s at *;obtain⟨sm,db⟩:∃sm,Hid (kY X s.L=sm):=⟨_,rfl⟩
     rw[db.out]at bl ad;rw[dk];clear k4 k5 x5 b1 b3;clear F G j I J U m n u B C D Y Z f2 f3 f4 f5 c z0 N O z3 z4 z5 y0 y1 y2 y3 y4 y5 b;(go_upto_region 24 with (go_at_call 134;refine R0 bl.out ?_;rintro e w6 ⟨rfl,k6⟩));have R:Hid _:=K.out.Wj k6;clear k6 dg dt bl;obtain⟨F,G,j,I,J,U⟩:=R.out.prf;obtain⟨⟨m,n,u,B,C,D⟩,⟨Y,Z,f2,f3,f4,f5⟩,c⟩:=eM R.out.r;obtain⟨⟨z0,N,O,z3,z4,z5⟩,⟨y0,y1,y2,y3,y4,y5⟩,b⟩:=eM R.out.z;simp only at m n u B C D;simp only at F G j I J;obtain⟨gT,gs,rfl,rfl,bw,bx,ds,c0,c1,q1,t2,t3,t4⟩:=cc.out w6 R.out.kept;have ec:(f:Int)<S.length:=(by omega);have eh:(H:Int)<T.length:=(by omega);obtain⟨ts,tr,tf,tl,tc⟩:=tz;simp only at t2 t3 t4 ad;have ai:Hid (BA w (((w6.setCell ⟨w.heap.size+2,3,none⟩ (string tf)).setCell ⟨w.heap.size+2,4,none⟩ (int i64 tl)).setCell ⟨w.heap.size+2,5,none⟩ (int i64 tc)).drew ⟨P,0,pf,pl,pc⟩ hp ⟨l,2,0,tf,tl,tc⟩):=(((R.out.set (r':=⟨l,2,0,tf,pl,pc⟩) 3 (string tf) rfl).set (r':=⟨l,2,0,tf,tl,pc⟩) 4 (int i64 tl) rfl).set (r':=⟨l,2,0,tf,tl,tc⟩) 5 (int i64 tc) rfl).Wj (aa.refl [] _).drew;go_region;obtain⟨X7,cj⟩:∃X7,Hid ((((w6.setCell ⟨w.heap.size+2,3,none⟩ (string tf)).setCell ⟨w.heap.size+2,4,none⟩ (int i64 tl)).setCell ⟨w.heap.size+2,5,none⟩ (int i64 tc)).drew=X7):=⟨_,rfl⟩
     rw[cj.out]at ai ⊢;clear F G j I J U m n u B C D Y Z f2 f3 f4 f5 c z0 N O z3 z4 z5 y0 y1 y2 y3 y4 y5 b;clear bw bx ds c0 c1 q1 t2 t3 t4 cj;obtain⟨F,G,j,I,J,U⟩:=ai.out.prf;obtain⟨⟨m,n,u,B,C,D⟩,⟨Y,Z,f2,f3,f4,f5⟩,c⟩:=eM ai.out.r;obtain⟨⟨z0,N,O,z3,z4,z5⟩,⟨y0,y1,y2,y3,y4,y5⟩,b⟩:=eM ai.out.z;simp only at m n u B C D;simp only at F G j I J;cases cl:(bg==0)
     ·rw[cl,RY rfl]at ad;have HX:Hid (V=⟨l,2,11,tf,tl,tc⟩):=ad.out;(go_upto_region 27 with fail);have M:Hid (BA w (X7.setCell ⟨w.heap.size+2,2,none⟩ (int i64 11)) ⟨P,0,pf,pl,pc⟩ hp ⟨l,2,11,tf,tl,tc⟩):=ai.out.set 2 (int i64 11) rfl;obtain⟨X8,bv⟩:∃X8,Hid (X7.setCell ⟨w.heap.size+2,2,none⟩ (int i64 11)=X8):=⟨_,rfl⟩
      rw[bv.out]at M ⊢;clear F G j I J U m n u B C D Y Z f2 f3 f4 f5 c z0 N O z3 z4 z5 y0 y1 y2 y3 y4 y5 b;obtain⟨F,G,j,I,J,U⟩:=M.out.prf;obtain⟨⟨m,n,u,B,C,D⟩,⟨Y,Z,f2,f3,f4,f5⟩,c⟩:=eM M.out.r;obtain⟨⟨z0,N,O,z3,z4,z5⟩,⟨y0,y1,y2,y3,y4,y5⟩,b⟩:=eM M.out.z;simp only at m n u B C D;go_wp2;obtain⟨x0,x1,x2,x3,x4,x5⟩:=oB M.out.z (string l) (int i64 2) (int i64 11) (string tf) (int i64 tl) (int i64 tc);exact Sa (v:=agg #[string l,int i64 2,int i64 11,string tf,int i64 tl,int i64 tc]) (by simp[results,results90,go_sem,x0,x1,x2,x3,x4,x5]) rfl ⟨by rw[HX.out];rfl,(((((M.out.kept.setCell (RZ (by simp)) _).setCell (RZ (by simp)) _).setCell (RZ (by simp)) _).setCell (RZ (by simp)) _).setCell (RZ (by simp)) _).setCell (RZ (by simp)) _⟩
     ·rw[cl,RU (by simp)]at ad;cases sm
      ·rw[RY rfl]at ad;have HX:Hid (V=⟨l,2,12,tf,tl,tc⟩):=ad.out;(go_upto_region 30 with fail);have M:Hid (BA w (X7.setCell ⟨w.heap.size+2,2,none⟩ (int i64 12)) ⟨P,0,pf,pl,pc⟩ hp ⟨l,2,12,tf,tl,tc⟩):=ai.out.set 2 (int i64 12) rfl;obtain⟨X8,bv⟩:∃X8,Hid (X7.setCell ⟨w.heap.size+2,2,none⟩ (int i64 12)=X8):=⟨_,rfl⟩
       rw[bv.out]at M ⊢;clear F G j I J U m n u B C D Y Z f2 f3 f4 f5 c z0 N O z3 z4 z5 y0 y1 y2 y3 y4 y5 b;obtain⟨F,G,j,I,J,U⟩:=M.out.prf;obtain⟨⟨m,n,u,B,C,D⟩,⟨Y,Z,f2,f3,f4,f5⟩,c⟩:=eM M.out.r;obtain⟨⟨z0,N,O,z3,z4,z5⟩,⟨y0,y1,y2,y3,y4,y5⟩,b⟩:=eM M.out.z;simp only at m n u B C D;go_wp2;obtain⟨x0,x1,x2,x3,x4,x5⟩:=oB M.out.z (string l) (int i64 2) (int i64 12) (string tf) (int i64 tl) (int i64 tc);exact Sa (v:=agg #[string l,int i64 2,int i64 12,string tf,int i64 tl,int i64 tc]) (by simp[results,results90,go_sem,x0,x1,x2,x3,x4,x5]) rfl ⟨by rw[HX.out];rfl,(((((M.out.kept.setCell (RZ (by simp)) _).setCell (RZ (by simp)) _).setCell (RZ (by simp)) _).setCell (RZ (by simp)) _).setCell (RZ (by simp)) _).setCell (RZ (by simp)) _⟩
      ·rw[RU (by simp)]at ad;have HX:Hid (V=⟨l,4,0,⟨#[]⟩,0,0⟩):=ad.out;go_wp2;obtain⟨x0,x1,x2,x3,x4,x5⟩:=oB ai.out.z (string l) (int i64 4) (int i64 0) (string ⟨#[]⟩) (int i64 0) (int i64 0);exact Sa (v:=agg #[string l,int i64 4,int i64 0,string ⟨#[]⟩,int i64 0,int i64 0]) (by simp[results,results90,go_sem,x0,x1,x2,x3,x4,x5]) rfl ⟨by rw[HX.out];rfl,(((((ai.out.kept.setCell (RZ (by simp)) _).setCell (RZ (by simp)) _).setCell (RZ (by simp)) _).setCell (RZ (by simp)) _).setCell (RZ (by simp)) _).setCell (RZ (by simp)) _⟩
  ·rw[hh,RY (by omega),SO]at ac;rw[hh];have ea:(0:Int)<=(k:Int):=by omega
   have eb:(k:Int)<P.length:=(by omega);have HX:Hid (V=⟨l,3,0,(bK P k).file,(bK P k).line,(bK P k).col⟩):=ac.out;obtain⟨gP,aS,aT,-,-,-,q3,q4,q5⟩:=cG.step (cG.Wj HP.out al.out.kept) k hk;have HQ:Hid (∀E:World,aa [] w E->gP<E.heap.size/\E.cell? ⟨gP,k*6+3,none⟩=some (string (bK P k).file)/\E.cell? ⟨gP,k*6+4,none⟩=some (int i64 (bK P k).line)/\E.cell? ⟨gP,k*6+5,none⟩=some (int i64 (bK P k).col)):=fun E kx=>by
    obtain⟨g2,j,h2,-,-,-,c3,c4,c5⟩:=cG.step (cG.Wj HP.out kx) k hk;rw[aS]at j;cases j
    exact⟨h2,c3,c4,c5⟩
   generalize (bK P k).file=sf at *;generalize (bK P k).line=sl at *;generalize (bK P k).col=sc at *;clear aT q3 q4 q5;(go_upto_region 8 with fail);have Q:Hid (BA w (w3.setCell ⟨w.heap.size+2,1,none⟩ (int i64 3)) ⟨P,0,pf,pl,pc⟩ hp ⟨l,3,0,pf,pl,pc⟩):=al.out.set 1 (int i64 3) rfl;obtain⟨X4,br⟩:∃X4,Hid (w3.setCell ⟨w.heap.size+2,1,none⟩ (int i64 3)=X4):=⟨_,rfl⟩
   rw[br.out]at Q ⊢;clear F G j I J U m n u B C D Y Z f2 f3 f4 f5 c z0 N O z3 z4 z5 y0 y1 y2 y3 y4 y5 b;obtain⟨F,G,j,I,J,U⟩:=Q.out.prf;obtain⟨⟨m,n,u,B,C,D⟩,⟨Y,Z,f2,f3,f4,f5⟩,c⟩:=eM Q.out.r;obtain⟨⟨z0,N,O,z3,z4,z5⟩,⟨y0,y1,y2,y3,y4,y5⟩,b⟩:=eM Q.out.z;simp only at m n u B C D;simp only at F G j I J;obtain⟨aT,q3,q4,q5⟩:=HQ.out X4 Q.out.kept;rw[aS]at F;(go_upto_region 9 with fail);have K:Hid (BA w (((X4.setCell ⟨w.heap.size+2,3,none⟩ (string sf)).setCell ⟨w.heap.size+2,4,none⟩ (int i64 sl)).setCell ⟨w.heap.size+2,5,none⟩ (int i64 sc)) ⟨P,0,pf,pl,pc⟩ hp ⟨l,3,0,sf,sl,sc⟩):=((Q.out.set (r':=⟨l,3,0,sf,pl,pc⟩) 3 (string sf) rfl).set (r':=⟨l,3,0,sf,sl,pc⟩) 4 (int i64 sl) rfl).set 5 (int i64 sc) rfl;obtain⟨X5,bs⟩:∃X5,Hid (((X4.setCell ⟨w.heap.size+2,3,none⟩ (string sf)).setCell ⟨w.heap.size+2,4,none⟩ (int i64 sl)).setCell ⟨w.heap.size+2,5,none⟩ (int i64 sc)=X5):=⟨_,rfl⟩
   rw[bs.out]at K ⊢;clear F G j I J U m n u B C D Y Z f2 f3 f4 f5 c z0 N O z3 z4 z5 y0 y1 y2 y3 y4 y5 b;obtain⟨F,G,j,I,J,U⟩:=K.out.prf;obtain⟨⟨m,n,u,B,C,D⟩,⟨Y,Z,f2,f3,f4,f5⟩,c⟩:=eM K.out.r;obtain⟨⟨z0,N,O,z3,z4,z5⟩,⟨y0,y1,y2,y3,y4,y5⟩,b⟩:=eM K.out.z;simp only at m n u B C D;go_wp2;obtain⟨x0,x1,x2,x3,x4,x5⟩:=oB K.out.z (string l) (int i64 3) (int i64 0) (string sf) (int i64 sl) (int i64 sc);exact Sa (v:=agg #[string l,int i64 3,int i64 0,string sf,int i64 sl,int i64 sc]) (by simp[results,results90,go_sem,x0,x1,x2,x3,x4,x5]) rfl ⟨by rw[HX.out];rfl,(((((K.out.kept.setCell (RZ (by simp)) _).setCell (RZ (by simp)) _).setCell (RZ (by simp)) _).setCell (RZ (by simp)) _).setCell (RZ (by simp)) _).setCell (RZ (by simp)) _⟩
structure fX(w:World)(v:Nat)(fs:Fs)(h:Hd)(on:Bool)(p2 p3 p4:Value):Prop where
 d:w.heap[v]?=some (.cells #[slice h.ao fs.length h.cap,bool on,p2,p3,p4] 85)
 own:aC w h (cK fs)
 far:h.blk≠some v
 le:fs.length<=4
theorem fX.Wj(a:fX w b T l i x y k)(c:aa [] w n):fX n b T l i x y k :=
 ⟨c.get a.d (by simp),a.own.Wj c,a.far,a.le⟩
theorem fX.keptS{S:List Nat}(a:fX w b T l i x y k)(e:aa S w n)(g:b∉S)(f:∀q,l.blk=some q->q∉S):fX n b T l i x y k :=
 ⟨e.get a.d g,a.own.Wo (fun q c=>e.block q (a.own.lt c) (f q c)),a.far,a.le⟩
theorem aC.putAt{r:eB}(o:aC w l r)(d:l.ao=some ⟨b,0,none⟩)(j:Nat)(v:Value):aC (w.setCell ⟨b,j,none⟩ v) l ⟨r.e,r.size,r.n,r.xs.set j v⟩:=by
 refine⟨by rw[SS];exact o.1,?_⟩;rcases o.2 with ⟨g,y⟩ | ⟨x,f,a,g,s,t,k,m,p,q⟩
 ·injection g with c
  rw[c]at d;cases d
 ·injection g with c u i
  rw[c]at d;cases d
  refine RZ ⟨b,f,a.setIfInBounds j v,by rw[c,i],s,by rw[ah t],k,m,by rw[Array.size_setIfInBounds];exact p,?_⟩;rw[UZ]
  show(a.toList.set j v).take (r.n*r.size)=r.xs.set j v
  rw[<-q,VT]
theorem aC.srcFi(o:aC w l (cK T)):nH w l.ao l.cap T:=by
 refine⟨?_,fun k m=>?_⟩
 ·rcases o.Wu with ⟨e,b,_⟩ | ⟨g,c,n,p,d,-⟩
  ·have b:T.length=0:=b;omega
  ·exact d
 ·obtain⟨g,a,j,-⟩:=qK o (show 0<T.length by omega);obtain⟨f,i⟩:=wQ T k m;exact⟨g,a,j,o.cell a (k*2) _ f,o.cell a (k*2+1) _ i⟩
set_option maxRecDepth 512
theorem Jx(w:World) :
  Calls prog 29 #[] w fun e a=>e=returned (pointer (some ⟨w.heap.size,0,none⟩))/\fX a w.heap.size [] ⟨none,0⟩ false (pointer none) (slice none 0 0) (slice none 0 0)/\aa [] w a:=by
 have b:Hid (fX (w.alloc (.cells #[slice none 0 0,bool false,pointer none,slice none 0 0,slice none 0 0] 85)) w.heap.size [] ⟨none,0⟩ false (pointer none) (slice none 0 0) (slice none 0 0)):=⟨R2 _ _,Sb _ _ _ _,(by intro e;cases e),by simp⟩;go_enter func29,ntmps29;go_wp2;go_ret;exact⟨rfl,b.out,(aa.refl [] _).alloc _⟩
def QL(w:World)(v:Nat)(fs:Fs)(h:Hd)(n d:ByteArray)(p2 p3 p4:Value)(e:Ending)(w':World):Prop :=
 e=returned (int i64 (fm fs n d).1)/\((fm fs n d).1=0->∃h',fX w' v (fm fs n d).2 h' false p2 p3 p4/\yj w w' v h h')/\((fm fs n d).1≠0->aa [] w w')
theorem fX.off(a:fX w b T l i x y k):fX (w.setCell ⟨b,1,none⟩ (bool false)) b T l false x y k:=by
 have f:aa [b] w (w.setCell ⟨b,1,none⟩ (bool false)):=(aa.refl _ _).setCell (R4 (by simp)) _;exact⟨by rw[ah a.d];rfl,a.own.Wo (fun q c=>f.block q (a.own.lt c) (by simp;intro e;exact a.far (by rw[<-e];exact c))),a.far,a.le⟩
theorem yj.set(r:yj w n b l d)(i:Nat)(u:Value):yj w (n.setCell ⟨b,i,none⟩ u) b l d:=⟨r.kept.setCell (R4 (by simp)) _,r.blk⟩
theorem fX.grown{c:Fs}(a:fX w b T l i x y k)(g:bI w n l d)(o:aC n d (cK c))(r:c.length<=4){m:Nat}(s:m=c.length):fX (n.setCell ⟨b,0,none⟩ (slice d.ao m d.cap)) b c d i x y k:=by
 have p:=g.kept.get a.d (fun j=>a.far (aQ j));have v:=ae a.d;have f:d.blk≠some b:=by
  rcases g.blk with e | ⟨q,e,j⟩
  ·rw[e];exact a.far
  ·rw[e];intro u;cases u;omega
 have t:aa [b] n (n.setCell ⟨b,0,none⟩ (slice d.ao m d.cap)):=(aa.refl _ _).setCell (R4 (by simp)) _;subst s;exact⟨by rw[ah p];rfl,o.Wo (fun q j=>t.block q (o.lt j) (by simp;intro e;exact f (by rw[<-e];exact j))),f,r⟩
theorem fX.wrote(a:fX w b T l i x y k)(c:l.ao=some ⟨o,0,none⟩)(g:v<T.length)(n d:ByteArray):fX ((w.setCell ⟨o,v*2,none⟩ (string n)).setCell ⟨o,v*2+1,none⟩ (string d)).drew b (T.set v (n,d)) l i x y k:=by
 have f:l.blk=some o:=by unfold Hd.blk;rw[c];rfl
 have j:aa [o] w ((w.setCell ⟨o,v*2,none⟩ (string n)).setCell ⟨o,v*2+1,none⟩ (string d)).drew:=(((aa.refl _ _).setCell (R4 (by simp)) _).setCell (R4 (by simp)) _).drew;have m:aC ((w.setCell ⟨o,v*2,none⟩ (string n)).setCell ⟨o,v*2+1,none⟩ (string d)) l (cK (T.set v (n,d))):=by
  have:=(a.own.putAt c (v*2) (string n)).putAt c (v*2+1) (string d);have e:(⟨(cK T).e,(cK T).size,(cK T).n,((cK T).xs.set (v*2) (string n)).set (v*2+1) (string d)⟩:eB)=cK (T.set v (n,d)):=by
   simp only[cK,List.length_set];rw[GH T v n d g]
  rw[e]at this;exact this
 refine⟨?_,m.Wj (aa.refl [] _).drew,a.far,by rw[SS];exact a.le⟩;rw[SS];exact j.get a.d (by simp;intro e;exact a.far (by rw[f,e]))
set_option maxRecDepth 100000
theorem JN(b:Fs)(h:Hd)(N:Bool)(p2 p3 p4:Value)(n d:ByteArray)(w:World)(R:fX w H b h N p2 p3 p4)(hn:n.size<=1073741824)(hd:d.size<=4294967296) :
  Calls prog 16 #[pointer (some ⟨H,0,none⟩),string n,string d] w fun e w'=>QL w H b h n d p2 p3 p4 e w':=by
 have E:Hid (Calls prog 35 #[string n,string d] w fun e w'=>e=returned (int i64 (dc n d))/\w'=w):=Cm n d w hn hd;cases I:(dc n d==0)
 ·have s:Hid (fm b n d=(dc n d,b)):=by show _=_;unfold fm;rw[RY (by simpa using I)]
  have HR:Hid _:=R;generalize dc n d=c at *;go_enter func16,ntmps16;go_wp2_with (go_at_call 35;refine R0 E.out ?_;rintro e D ⟨rfl,a⟩;rw[a];clear a);go_ret;exact⟨by rw[s.out];rfl,by rw[s.out];exact⟨(fun q=>by rw[show c=0 from q]at I;cases I),fun _=>aa.refl _ _⟩⟩
 ·have o:dc n d=0:=by simpa using I
  rw[o]at E;obtain⟨W,F⟩:∃W,Hid (w.alloc (.cells #[string n,string d] 68)=W):=⟨_,rfl⟩
  have kW:=fN F.out;have T:=fY F.out;have i:=R.Wj kW;have f:Hid _:=i;have O:W.cell? ⟨H,0,none⟩=some (slice h.ao b.length h.cap):=by rw[aj i.d];rfl
  have c1:W.cell? ⟨H,1,none⟩=some (bool N):=by rw[aj i.d];rfl
  have f0:=am i.d 0;have f1:=am i.d 1;have z0:=ae i.d;obtain⟨b0,b1⟩:=Ai T;have zb:=ae T;have y:Hid _:=kW;have V:=R.le;have l:Hid _:=(mX b h.ao h.cap n W (by omega) i.own.srcFi);clear i R kW T I;obtain⟨m,A⟩:∃m,Hid (b.length=m):=⟨_,rfl⟩
  rw[A.out]at O l V;rcases pT n b with v | ⟨k,K,v⟩
  ·rw[v]at l;by_cases hl:m=4
   ·have s:Hid (fm b n d=(1,b)):=(by show _=_;unfold fm;rw[RU (by simpa using o),v,RU (by omega),RY (by rw[A.out];omega)]);subst hl;clear v o;go_enter func16,ntmps16;(go_upto_region 5 with (go_at_call 35;refine R0 E.out ?_;rintro e D ⟨rfl,a⟩;rw[a];clear a));rw[F.out];go_wp2_with (go_at_call 36;refine R0 l.out ?_;rintro e D ⟨rfl,a⟩;rw[a];clear a);go_ret;exact⟨by rw[s.out];rfl,by rw[s.out];exact⟨(fun q=>by cases q),fun _=>y.out⟩⟩
   ·have s:Hid (fm b n d=(0,b++[(n,d)])):=(by show _=_;unfold fm;rw[RU (by simpa using o),v,RU (by omega),RU (by rw[A.out];omega)]);have ap:((m:Int)==4)=false:=(by simp;omega);have z:Hid ((cK b).n=m):=A.out;clear v o;obtain⟨i0,hi,Y,Z,ac⟩:=Sr Ax;have hD:Hid (fX (W.alloc (.cells #[string n,string d] 68)).drew H b h N p2 p3 p4):=f.out.Wj ((aa.refl [] W).alloc _).drew;have s2:Hid (∀j u,([string n,string d]:List Value)[j]?=some u->(W.alloc (.cells #[string n,string d] 68)).drew.cell? ((⟨W.heap.size,0,none⟩:Addr).add j)=some u):=by
     intro j u hj;rw[bS];have K:(W.alloc (.cells #[string n,string d] 68)).drew.heap[W.heap.size]?=some (.cells #[string n,string d] 68):=R2 _ _;rw[aj K];simpa using hj
    have s3:Hid (∀u∈([string n,string d]:List Value),u.oneCell'=true):=by intro u hu;simp only[List.mem_cons,List.not_mem_nil,or_false]at hu;rcases hu with rfl | rfl <;> rfl
    have s4:Hid ((cK b).n+1<=maxLen):=(by show _<=_;rw[z.out];unfold maxLen;omega);have s5:Hid (((cK b).n+1)*32<=140737488355328):=(by show _<=_;rw[z.out];omega);go_enter func16,ntmps16;(go_upto_region 5 with (go_at_call 35;refine R0 E.out ?_;rintro e D ⟨rfl,a⟩;rw[a];clear a));rw[F.out];(go_upto_region 9 with (go_at_call 36;refine R0 l.out ?_;rintro e D ⟨rfl,a⟩;rw[a];clear a));go_region_law (refine cO rfl (.tmp 41) (.tmp 43) 33 rfl i0 (agg #[string ⟨#[]⟩,string ⟨#[]⟩]) 32 h (cK b) underlying33 hi Y Z ac rfl (show 0<2 by omega) (by rw[z.out];simp[Act.eval]) hD.out.own ⟨W.heap.size,0,none⟩ 1 1 [string n,string d] (by simp[Act.eval]) rfl s2.out s3.out So s4.out s5.out ?_;intro Q p S L x J;have U:=(show Hid (bI W S h ⟨some ⟨Q,0,none⟩,p⟩) from(bI.Wj ((aa.refl [] W).alloc _).drew).trans (bI.made x (by simpa using J)));have P:=U.out.kept.get f.out.d (fun hq=>f.out.far (aQ hq));have e5:=am P 0;have e6:S.cell? ⟨H,0,none⟩=some (slice h.ao m h.cap):=(by rw[aj P,<-A.out];rfl);have z5:=ae P)
    all_goals
     have M:aC S ⟨some ⟨Q,0,none⟩,p⟩ (cK (b++[(n,d)])):=(by rw[<-xD];exact L);have r:Hid _:=(f.out.grown (m:=(cK b).n+1) U.out M (by simp;rw[A.out];omega) (by simp[cK]));obtain⟨X,C⟩:∃X,Hid (S.setCell ⟨H,0,none⟩ (slice (some ⟨Q,0,none⟩) ((cK b).n+1) p)=X):=⟨_,rfl⟩
     have t:=(show Hid (yj w X H h ⟨some ⟨Q,0,none⟩,p⟩) by rw[<-C.out];exact((yj.of (bI.Wj y.out)).trans (yj.of U.out)).set 0 _);rw[C.out]at r ⊢;have x1:=am r.out.d 1;have x2:X.cell? ⟨H,1,none⟩=some (bool N):=(by rw[aj r.out.d];rfl);have x3:=ae r.out.d;clear L x J P e5 e6 z5 M O c1 f0 f1 C;go_wp2;go_ret;exact⟨by rw[s.out];rfl,by rw[s.out];exact⟨fun _=>⟨_,r.out.off,t.out.set 1 _⟩,fun q=>absurd rfl q⟩⟩
  ·have s:Hid (fm b n d=(0,b.set k (n,d))):=(by show _=_;unfold fm;rw[RU (by simpa using o),v,RY (by omega),SO]);rw[v]at l;obtain⟨g,B,af,ag⟩:=qK f.out.own (show 0<b.length by omega);obtain⟨g',G,-,q0,q1⟩:=f.out.own.srcFi.2 k K;rw[B]at G;cases G
   have r:Hid _:=f.out.wrote B K n d;have al:(k:Int)<(m:Int):=(by rw[A.out]at K;omega);have ai:(0:Int)<=(k:Int):=(by omega);have an:¬(k:Int)<0:=(by omega);have u0:W.frozen? ⟨g,k*2,none⟩=false/\W.frozen? ⟨g,k*2+1,none⟩=false:=by
    rcases f.out.own.Wu with ⟨e,-,-⟩ | ⟨g2,ad,e1,G,-⟩
    ·rw[e]at B;cases B
    ·rw[B]at e1;cases e1;exact⟨am G _,am G _⟩
   obtain⟨u0,u1⟩:=u0;have t:Hid (yj w ((W.setCell ⟨g,k*2,none⟩ (string n)).setCell ⟨g,k*2+1,none⟩ (string d)).drew H h h):=by
    have hb:h.blk=some g:=(by unfold Hd.blk;rw[B];rfl);have:=y.out.mono (S':=H :: h.blk.toList) (by simp);exact⟨((this.setCell (R4 (by rw[hb];simp)) _).setCell (R4 (by rw[hb];simp)) _).drew,R4 rfl⟩
   rw[B]at O l;clear v o;go_enter func16,ntmps16;(go_upto_region 5 with (go_at_call 35;refine R0 E.out ?_;rintro e D ⟨rfl,a⟩;rw[a];clear a));rw[F.out];(go_upto_region 10 with (go_at_call 36;refine R0 l.out ?_;rintro e D ⟨rfl,a⟩;rw[a];clear a));go_region;obtain⟨X,C⟩:∃X,Hid (((W.setCell ⟨g,k*2,none⟩ (string n)).setCell ⟨g,k*2+1,none⟩ (string d)).drew=X):=⟨_,rfl⟩
   rw[C.out]at r t ⊢;have x1:=am r.out.d 1;have x2:X.cell? ⟨H,1,none⟩=some (bool N):=by rw[aj r.out.d];rfl
   have x3:=ae r.out.d;clear O c1 f0 f1 C q0 q1 u0 u1;go_wp2;go_ret;exact⟨by rw[s.out];rfl,by rw[s.out];exact⟨fun _=>⟨_,r.out.off,t.out.set 1 _⟩,fun q=>absurd rfl q⟩⟩
def OI(x:jM×Hd):List Value:=[slice x.2.ao x.1.st.length x.2.cap,int i64 x.1.why,string x.1.file,int i64 x.1.line,int i64 x.1.col]
theorem OJ(x:jM×Hd):(OI x).length=5:=rfl
def gw(L:List (jM×Hd)):eB:=kT 122 5 OI L
def bZ(L:List fO):eB:=kT 38 6 gx L
structure Pm(w:World)(v b:Nat)(x0 x1:Value)(PS:List (jM×Hd))(aoP:Option Addr)(cP:Nat)(RS:List fO)(aoR:Option Addr)(cR:Nat):Prop where
 d:w.heap[v]?=some (.cells #[x0,x1,pointer (some ⟨b,0,none⟩),slice aoP PS.length cP,slice aoR RS.length cR] 85)
 p:cG w aoP 5 OI PS
 q:∀x∈PS,cG w x.2.ao 6 lq x.1.st
 r:cG w aoR 6 gx RS
theorem Pm.Wj{f:List (jM×Hd)}{c:Option Addr}{g:List fO}{e:Option Addr}{i:Nat}(a:Pm w b o x y f c v g e i)(k:aa [] w n):Pm n b o x y f c v g e i :=
 ⟨k.get a.d (by simp),a.p.Wj k,fun l j=>(a.q l j).Wj k,a.r.Wj k⟩
def eR(RS:List fO)(a:Nat):fO:=RS.getD a OZ
theorem v8(b:List fO)(a:Nat)(h:a<b.length):b[a]?=some (eR b a):=by
 unfold eR;rw[RT,RQ h];rfl
def di(RS:List fO)(a:Nat):Bool:=((eR RS a).Wk==4)||((eR RS a).Wk==5)
theorem Ki(y z:Value)(s:List (jM×Hd))(l:Option Addr)(t:Nat)(b:List fO)(m:Option Addr)(o:Nat)(w:World)(j:Pm w a f y z s l t b m o)(u:H<b.length) :
  Calls prog 67 #[pointer (some ⟨a,0,none⟩),int i64 H] w fun e x=>e=returned (bool (di b H))/\x=w:=by
 obtain⟨g,rfl,C,c⟩:=j.r H _ (v8 b H u);have A:w.cell? ⟨g,H*6+1,none⟩=some (int i64 (eR b H).Wk):=c 1 _ rfl;have B:w.cell? ⟨a,4,none⟩=some (slice (some ⟨g,0,none⟩) b.length o):=by rw[aj j.d];rfl
 have D:=ae j.d;have v:(H:Int)<b.length:=by omega
 have k:Hid (di b H=(((eR b H).Wk==4)||((eR b H).Wk==5))):=rfl;generalize (eR b H).Wk=q at *;clear j c;cases n:(q==4)
 ·cases p:(q==5)
  ·have i:Hid (di b H=false):=(by show _=_;rw[k.out,n,p];rfl);go_enter func67,ntmps67;go_wp2;go_ret;exact⟨aE i.out.symm,rfl⟩
  ·have i:Hid (di b H=true):=(by show _=_;rw[k.out,n,p];rfl);go_enter func67,ntmps67;go_wp2;go_ret;exact⟨aE i.out.symm,rfl⟩
 ·have i:Hid (di b H=true):=by show _=_;rw[k.out,n];rfl
  go_enter func67,ntmps67;go_wp2;go_ret;exact⟨aE i.out.symm,rfl⟩
end Go.Proofs.YtnbhnocdhbcbcaaGreat

import Derived.Test.YtpdholcaobgofaaGreatP36
namespace Go.Proofs.YtpdholcaobgofaaGreat
open Go.RowKit Tryz
open Value IntKind Ending
set_option maxHeartbeats 0
variable{f k z1:World}{n x D:Nat}{i:List Value}{o g:Xs}{z2:List dZ}{I:List oy}{N:Nat->Hd}{M:List St}{z3:Int×Xs->Prop}(v:World)(z0:Int)(d T:Nat)(L:Fs)(l:Nat)(b:List St)(S:Nat->Hd)(m:Xu)(H:Nat)(y:World)(s:Db)
def iJ(w:World)(a t n:Nat)(xs:List Value):Prop:=∃cur:Array Value,w.heap[a]?=some (.cells cur t)/\cur.size=n/\xs.length<=n/\∀(i:Nat) u,xs[i]?=some u->cur[i]?=some u
theorem iJ.keptQ{Q:Nat->Prop}(h:iJ f n x D i)(e:fB Q f k)(d:¬Q n):iJ k n x D i:=by
 obtain⟨a,b,c⟩:=h;exact⟨a,e.get b d,c⟩
theorem iJ.Zbj{a:Nat}(h:iJ f a n x i)(e:aa [] f k):iJ k a n x i:=by
 obtain⟨b,c,d⟩:=h;exact⟨b,e.get c (by simp),d⟩
theorem iJ.lt(h:iJ f n x D i):n<f.heap.size:=by
 obtain⟨a,b,-⟩:=h;exact ah b
theorem iJ.put(h:iJ f n x D i)(m:i.length<D):(∃u,f.cell? ⟨n,i.length,none⟩=some u)/\f.frozen? ⟨n,i.length,none⟩=false/\∀u,iJ (f.setCell ⟨n,i.length,none⟩ u) n x D (i++[u]):=by
 obtain⟨c,d,j,l,k⟩:=h;refine⟨⟨c[i.length]'(by omega),by rw[ab d];exact Zg _⟩,zcW d _,fun u=>⟨_,ae d _ _,by simp[j],by simp;omega,fun b v a=>?_⟩⟩;rw[Yp];by_cases e:b<i.length
 ·rw[XP e]at a;rw[Xz (by omega)];exact k b v a
 ·have g:=(XL.1 a).1;rw[XC]at g;replace g:b<i.length+1:=g;rw[XO (by omega),show b-i.length=0 by omega]at a;cases a
  rw[XA (by omega),XA (by omega)]
theorem iJ.made{a:Array Value}(b:f.heap[n]?=some (.cells a x))(c:a.size=D):iJ f n x D []:=⟨a,b,c,XX _,fun i u h=>by cases h⟩
theorem iJ.view(h:iJ f n 9 x (dc o))(i:o.length=x)(k:x<=100000):dB f ⟨some ⟨n,0,none⟩,x⟩ o:=by
 obtain⟨a,b,e,g,c⟩:=h;refine XK ⟨n,0,a,_,rfl,b,fun j l d=>?_,by show o.length<=x;omega,by show x<=_;omega⟩;rw[Zf];exact c j _ (by simp[dc,d])
theorem iJ.srcN{a:Xu}(h:iJ f n 3 x (eR a)):n8 f (some ⟨n,0,none⟩) a:=by
 obtain⟨c,b,g,i,d⟩:=h;intro k j e;refine⟨n,rfl,ah b,?_⟩;rw[ab b];exact d k _ (by simp[eR,e])
theorem pY.side(h:pY f k n o g z2 I N)(c:aa [x] k z1)(m:f.heap.size<=x)(r:n≠x)(s:¬eG N x)(j:∀p∈I,p.ap≠x/\∀a,p.ag=some ⟨a,0,none⟩->a≠x):pY f z1 n o g z2 I N:=by
 have t:fB (fun q=>q=x) k z1:=c.toP (fun q i _=>by simpa using i);refine⟨h.bag.Zbw c (by simpa using r) (fun q i e=>s (by simp at e;rw[<-e];exact i)),mW h.kp c m,h.lo,h.hi,h.len,fun u p P d l=>(h.each u p P d l).keptQ t (j p (YH d)).1 (j p (YH d)).2,fun p b=>⟨⟨(h.far p b).1.1,(h.far p b).1.2.1,XB (h.far p b).1.2.2 c.size⟩,fun a e=>⟨((h.far p b).2 a e).1,((h.far p b).2 a e).2.1,XB ((h.far p b).2 a e).2.2 c.size⟩⟩,h.dist,h.sub⟩
theorem iJ.other{b:Nat}(h:iJ f n x D i)(g:Nat)(u:Value)(e:n≠b):iJ (f.setCell ⟨b,g,none⟩ u) n x D i:=by
 obtain⟨a,c,d⟩:=h;exact⟨a,by rw[XN _ _ _ _ e];exact c,d⟩
def Xn(w0:World)(gm:Nat)(tcs:Xs)(Ps:List dZ)(l:List St)(n:Nat)(H:Nat->Hd)(w:World)(e:Ending)(w':World):Prop:=if sA l n=true then GbS w0 gm tcs Ps (Dn l n) H w e w' else e=returned (tuple #[])/\aa [] w w'
theorem NL(e:Xr)(k:Int)(a b:Xt)(n c m d:Nat):(Instr.build 289 #[(0,string e),(1,int i64 k),(2,slice a n c),(3,slice b m d)]).run prog y=.ok (agg #[string e,int i64 k,slice a n c,slice b m d]) y :=
 Za9 y 289 _ _ (by kernel_rfl)
set_option maxRecDepth 100000
theorem DT(D Q:Xs)(Ps:List dZ)(L:List oy)(H:Nat->Hd)(n:Nat)(w:World)(h:pY v w l D Q Ps L H)(hR:dQ v d T b S)(ok:iV b)(hn:n<b.length)(ed:∀s∈b,aZ s∈D)(d2:∀(c2:Xs),vK c2->(∀c∈c2,c∈D)->c2.length<=100000)(gR:L.length<=100000) :
  Calls prog 143 #[pointer (some ⟨l,0,none⟩),pointer (some ⟨d,T,none⟩),int i64 n] w fun e I=>Xn v l D Ps b n H w e I:=by
 have cg:Xq _:=zaX d T n b S w (hR.Zbj h.kp) hn ok;have bj:Xq (∀m (hm:m<b.length) f,aa [] v f->Calls prog 96 #[pointer (some ⟨d,T,none⟩),int i64 m] f fun e I=>e=returned (du b[m] (S (10+2*m)) (S (11+2*m)))/\aa [] f I):=fun m hm f q=>bu d T m b S f (hR.Zbj q) hm;have cq:Xq (∀m (hm:m<b.length) f,aa [] v f->Calls prog 188 #[du b[m] (S (10+2*m)) (S (11+2*m))] f fun e I=>e=returned (string (aB b[m]))/\aa [] f I):=fun m hm f q=>jD b[m] _ _ f ((hR.Zbj q).viewN m hm) (by have:=ok.syms m hm;omega);have bk:Xq (∀m (hm:m<b.length) f,aa [] v f->Calls prog 190 #[du b[m] (S (10+2*m)) (S (11+2*m))] f fun e I=>e=returned (string (aZ b[m]))/\aa [] f I):=fun m hm f q=>rO b[m] _ _ f ((hR.Zbj q).viewN m hm) (by have:=ok.syms m hm;omega);have c7:Xq (∀m (hm:m<b.length) f,aa [] v f->Calls prog 102 #[du b[m] (S (10+2*m)) (S (11+2*m))] f fun e I=>∃hr:Hd,e=returned (slice hr.ao (b[m].Zbe.drop 1).length hr.cap)/\dB I hr (b[m].Zbe.drop 1)/\aa [] f I):=fun m hm f q=>DB b[m] _ _ f ((hR.Zbj q).viewN m hm) (by have:=ok.syms m hm;omega);have cV:Xq _:=Ev b n;have f4:=sS b n;have HB:Xq _:=h;have dp:Xq (∀m (hm:m<b.length),aZ b[m]∈D):=fun m hm=>ed _ (XM hm);have cE:Xq _:=d2;have ch:Xq _:=bj.o n hn;have bg:Xq _:=c7.o n hn;have ck:Xq _:=bk.o n hn;have ha:=ok.syms n hn;have ff:Xq _:=hR;have fo:Xq (∀s∈b,s.Zbe.length<=100000):=fun s hs=>by
  obtain⟨i,hi,rfl⟩:=Yr hs;have:=ok.syms i hi;omega
 have g8:=ok.len;have aS:Xq (sA b n=((ph b n).isEmpty&&(aM b n).all (qK b (b[n].Zbe.drop 1)))):=by
  show _=_;unfold sA qK;rw[gW hn]
 have fe:Xq (Dn b n=⟨b[n].Zbz,aZ b[n],b[n].Zbe.drop 1,(aM b n).map (fun h=>aB (di b h)),(aM b n).map (fun h=>aZ (di b h))⟩):=by
  show _=_;unfold Dn;rw[gW hn]
 have fr:Xq _:=dp.o n hn;have bx:Xq ((b[n].Zbe.drop 1).length<=10000):=by show _<=_;rw[Ym];omega
 have b8:Xq (sA b n=false->∀f,aa [] w f->Xn v l D Ps b n H w (returned (tuple #[])) f):=fun e f q=>by unfold Xn;rw[Xz (by rw[e];simp)];exact⟨rfl,q⟩
 have ba:Xq (sA b n=true->∀e f,GbS v l D Ps (Dn b n) H w e f->Xn v l D Ps b n H w e f):=fun z e f q=>by unfold Xn;rw[XA z];exact q
 unfold du at ch bg ck cq bk bj;generalize b[n].Zbe.drop 1=o at *;generalize b[n]=s at *;generalize S (10+2*n)=sa at *;generalize S (11+2*n)=sp at *;generalize sA b n=ir at *;generalize Dn b n=PP at *;generalize hhy:aM b n=F at *;generalize hpp:ph b n=cA at *;have gS:=h.bag.lt;have e5:Xq _:=(fun k (q:eG H k)=>h.bag.inlt q);obtain⟨A,ad⟩:=aP (F.length);obtain⟨np,cf⟩:=aP (cA.length);rw[ad.o,cf.o]at cg;rw[ad.o]at f4;clear h hR ok ed d2 c7;go_enter func143,ntmps143;go_upto_region 1 with (go_at_call 134;refine Xx cg.o ?_;rintro e1 w1 ⟨hh,Y,rfl,oh,op,dT,k1⟩)
 obtain⟨W1,bl⟩:∃W,Xq (w1.alloc (.cells #[slice hh.ao A hh.cap,slice Y.ao np Y.cap] 223)=W):=⟨_,rfl⟩
 have B1:=dC bl.o;have cy:=dx bl.o;have bv:aa [] w W1:=k1.trans cy;obtain⟨fb,cc⟩:=aP (w1.heap.size);have d3:w.heap.size<=fb:=by rw[<-cc.o];exact k1.size
 rw[cc.o]at B1;rw[bl.o,cc.o];have c9:Xq _:=ch.o W1 (HB.o.kp.trans bv);go_upto_region 2 with (go_at_call 96;refine Xx c9.o ?_;rintro e2 w2 ⟨rfl,k2⟩)
 obtain⟨M,bm⟩:∃W,Xq (w2.alloc (.cells #[int i64 s.Zby,string s.Zbz,slice sa.ao s.Zbe.length sa.cap,slice sp.ao s.Zbp.length sp.cap,string s.ZbC.ZbD,int i64 s.ZbC.ZbE,int i64 s.ZbC.ZbF,int i64 s.til] 158)=W):=⟨_,rfl⟩
 have B2:=dC bm.o;have br:=dx bm.o;have cz:aa [] w M:=(bv.trans k2).trans br;obtain⟨K,cj⟩:=aP (w2.heap.size);have ec:w.heap.size<=K:=by rw[<-cj.o];exact(bv.trans k2).size
 rw[cj.o]at B2;rw[bm.o,cj.o];have BF:M.heap[fb]?=some (.cells #[slice hh.ao A hh.cap,slice Y.ao np Y.cap] 223):=(k2.trans br).get B1 (by simp);have a0:Xq (∀f H',aw l M H f H'->∀q,w.heap.size<=q->q<M.heap.size->f.heap[q]?=M.heap[q]?/\¬eG H' q/\q≠l):=fun f H' t q h1 h2=>by
  have hn:¬eG H q:=fun z=>by have:=e5.o q z;omega
  exact⟨t.1.block q h2 (fun z=>z.elim (fun e=>by omega) hn),t.fresh q h2 hn,by omega⟩
 have bc:Xq (∀f H',aw l M H f H'->(f.cell? ⟨fb,0,none⟩=some (slice hh.ao A hh.cap)/\f.cell? ⟨fb,1,none⟩=some (slice Y.ao np Y.cap))/\fb<f.heap.size):=fun f H' t=>by
  have B:f.heap[fb]?=some (.cells #[slice hh.ao A hh.cap,slice Y.ao np Y.cap] 223):=((a0.o f H' t fb d3 (ah BF)).1).trans BF;exact⟨⟨by rw[ab B];rfl,by rw[ab B];rfl⟩,ah B⟩
 have an:Xq (∀f H',aw l M H f H'->((f.cell? ⟨K,0,none⟩=some (int i64 s.Zby)/\f.cell? ⟨K,1,none⟩=some (string s.Zbz)/\f.cell? ⟨K,2,none⟩=some (slice sa.ao s.Zbe.length sa.cap)/\f.cell? ⟨K,3,none⟩=some (slice sp.ao s.Zbp.length sp.cap))/\(f.cell? ⟨K,4,none⟩=some (string s.ZbC.ZbD)/\f.cell? ⟨K,5,none⟩=some (int i64 s.ZbC.ZbE)/\f.cell? ⟨K,6,none⟩=some (int i64 s.ZbC.ZbF)/\f.cell? ⟨K,7,none⟩=some (int i64 s.til)))/\K<f.heap.size):=fun f H' t=>by
  have B:f.heap[K]?=some (.cells #[int i64 s.Zby,string s.Zbz,slice sa.ao s.Zbe.length sa.cap,slice sp.ao s.Zbp.length sp.cap,string s.ZbC.ZbD,int i64 s.ZbC.ZbE,int i64 s.ZbC.ZbF,int i64 s.til] 158):=((a0.o f H' t K ec (ah B2)).1).trans B2;refine⟨⟨⟨?_,?_,?_,?_⟩,⟨?_,?_,?_,?_⟩⟩,ah B⟩ <;> (rw[ab B];rfl)
 have cX:Xq (∀f H',aw l M H f H'->n8 f hh.ao F):=fun f H' t=>by
  intro k x hk;have es:=(oh.Zbj (cy.trans (k2.trans br)));have hl:k<F.length:=(XL.1 hk).1;rcases es.Zbu with ⟨-,e0,-⟩ | ⟨g,gE,e1,e2,e3,-⟩
  ·have e0:F.length=0:=e0;omega
  ·have f3:hh.Zbx=some g:=(by unfold Hd.Zbx;rw[e1];rfl);have fW:=dT g (XQ f3);have B:=(a0.o f H' t g fW (ah e2)).1;refine⟨g,e1,by rw[e2]at B;exact ah B,?_⟩;rw[XJ B];exact es.cell e1 k _ (by simp[bK,eR,hk])
 have aT:Xq _:=cz;have eA:Xq (pY v M l D Q Ps L H):=HB.o.Zbj cz;have TR:=aw.refl l M H;obtain⟨⟨f0,f1⟩,gT⟩:=bc.o M H TR;obtain⟨⟨⟨s0,s1,s2,s3⟩,s4,s5,s6,s7⟩,hb⟩:=an.o M H TR;have eX:Xq (F.length<=hh.cap∨True):=XK trivial;clear B1 B2 BF k1 cy k2 br bv oh op dT cg ch c9 bl bm eX cz TR;by_cases b3:np=0
 ·have ea:cA=[]:=XY (by rw[cf.o];exact b3);have ez:Xq (ir=F.all (qK b o)):=cm (by rw[aS.o,ea];rfl);have b4:decide ((np:Int) > 0)=false:=YB (by omega);have cH:Xq (∀(hr:Hd) f,aa [] M f->dB f hr o->Calls prog 191 #[pointer (some ⟨d,T,none⟩),slice hh.ao A hh.cap,slice hr.ao o.length hr.cap] f fun e I=>e=returned (bool ir)/\aa [] f I):=fun hr f q a7=>by
   rw[ez.o,<-ad.o];exact Ej d T b S hh hr F o f (ff.o.Zbj ((HB.o.kp.trans aT.o).trans q)) (cX.o f H (aw.Zbj (aw.refl l M H) q)) a7 (by have:=bx.o;omega) (by rw[ad.o];omega) (fun x hx=>cV.o x hx) fo.o
  have c8:Xq _:=(fun f (q:aa [] M f)=>bg.o f ((HB.o.kp.trans aT.o).trans q));have cF:Xq (∀f,aa [] M f->(f.cell? ⟨fb,0,none⟩=some (slice hh.ao A hh.cap)/\f.cell? ⟨fb,1,none⟩=some (slice Y.ao np Y.cap))/\(f.cell? ⟨K,0,none⟩=some (int i64 s.Zby)/\f.cell? ⟨K,1,none⟩=some (string s.Zbz)/\f.cell? ⟨K,2,none⟩=some (slice sa.ao s.Zbe.length sa.cap)/\f.cell? ⟨K,3,none⟩=some (slice sp.ao s.Zbp.length sp.cap))/\(f.cell? ⟨K,4,none⟩=some (string s.ZbC.ZbD)/\f.cell? ⟨K,5,none⟩=some (int i64 s.ZbC.ZbE)/\f.cell? ⟨K,6,none⟩=some (int i64 s.ZbC.ZbF)/\f.cell? ⟨K,7,none⟩=some (int i64 s.til))):=fun f q=>⟨(bc.o f H (aw.Zbj (aw.refl l M H) q)).1,(an.o f H (aw.Zbj (aw.refl l M H) q)).1⟩
  go_region_held3 (fun I=>(I.cell? ⟨fb,0,none⟩=some (slice hh.ao A hh.cap)/\I.cell? ⟨fb,1,none⟩=some (slice Y.ao np Y.cap))/\(I.cell? ⟨K,0,none⟩=some (int i64 s.Zby)/\I.cell? ⟨K,1,none⟩=some (string s.Zbz)/\I.cell? ⟨K,2,none⟩=some (slice sa.ao s.Zbe.length sa.cap)/\I.cell? ⟨K,3,none⟩=some (slice sp.ao s.Zbp.length sp.cap))/\(I.cell? ⟨K,4,none⟩=some (string s.ZbC.ZbD)/\I.cell? ⟨K,5,none⟩=some (int i64 s.ZbC.ZbE)/\I.cell? ⟨K,6,none⟩=some (int i64 s.ZbC.ZbF)/\I.cell? ⟨K,7,none⟩=some (int i64 s.til))) (go_keep) (first | (go_at_call 102;refine Xx (c8.o _ (by exact(aa.refl [] M).drew)) ?_;rintro e3 w3 ⟨hr,rfl,v3,k3⟩;obtain⟨⟨x0,x1⟩,⟨x2,x3,x4,x5⟩,x6,x7,x8,x9⟩:=cF.o w3 ((aa.refl [] M).drew.trans k3)) | (go_at_call 191;refine Xx (cH.o hr w3 (by exact(aa.refl [] M).drew.trans k3) v3) ?_;rintro e4 y ⟨rfl,k4⟩;obtain⟨⟨u0,u1⟩,⟨u2,u3,u4,u5⟩,u6,u7,u8,u9⟩:=cF.o y (((aa.refl [] M).drew.trans k3).trans k4)));have cd:Xq (aa [] M y):=((aa.refl [] M).drew.trans k3).trans k4;cases d7:ir
  ·have az:Xq _:=b8.o d7;clear aS ba;go_wp2;go_end0;exact az.o _ (aT.o.trans cd.o)
  ·have az:Xq _:=ba.o d7;have al:Xq (pY v y l D Q Ps L H):=eA.o.Zbj cd.o;have dl:Xq (aw l M H y H):=aw.Zbj (aw.refl l M H) cd.o;clear aS b8 ba cH c8 x0 x1 x2 x3 x4 x5 x6 x7 x8 x9 f0 f1 s0 s1 s2 s3 s4 s5 s6 s7 k3 k4 v3;obtain⟨iS,f8,ep,eq,er⟩:=XV i9;obtain⟨iN,f5,ej,ek,el⟩:=XV ru;have m1:=fun w=>bY (P:=prog) w 61 9 iS _ underlying61 f8 ep A 1 eq (by rw[er];omega) (by omega);have m2:=fun w=>bY (P:=prog) w 25 3 iN _ underlying25 f5 ej A 1 ek (by rw[el];omega) (by omega);obtain⟨R,dz⟩:∃mc,Xq (madeCells (string ⟨#[]⟩).cells (A*1)=mc):=⟨_,rfl⟩
   obtain⟨Z,dv⟩:∃mc,Xq (madeCells (int i64 0).cells (A*1)=mc):=⟨_,rfl⟩
   have ey:R.size=A:=(by rw[<-dz.o,YJ];omega);have ex:Z.size=A:=(by rw[<-dv.o,YJ];omega);rw[dz.o]at m1;rw[dv.o]at m2;obtain⟨⟨f0,f1⟩,gg⟩:=bc.o y H dl.o;have cv:aa [] y ((y.alloc (.cells R 9)).alloc (.cells Z 3)):=(bH.alloc _).alloc _;have BV:((y.alloc (.cells R 9)).alloc (.cells Z 3)).heap[y.heap.size]?=some (.cells R 9):=(bH.alloc _).get (XD y _) (by simp);have BG:((y.alloc (.cells R 9)).alloc (.cells Z 3)).heap[y.heap.size+1]?=some (.cells Z 3):=by
    have:=XD (y.alloc (.cells R 9)) (.cells Z 3);rw[show(y.alloc (.cells R 9)).heap.size=y.heap.size+1 by simp]at this;exact this
   have a5:∀q,eG H q->q<y.heap.size:=fun q z=>al.o.bag.inlt z;have gn:=al.o.bag.lt;have eP:Xq (iJ ((y.alloc (.cells R 9)).alloc (.cells Z 3)) y.heap.size 9 A (dc ((F.take 0).map (fun h=>aB (di b h))))):=iJ.made BV ey;have eS:Xq (iJ ((y.alloc (.cells R 9)).alloc (.cells Z 3)) (y.heap.size+1) 3 A (eR [])):=iJ.made BG ex;have eV:Xq (pY v ((y.alloc (.cells R 9)).alloc (.cells Z 3)) l D Q Ps L H):=al.o.Zbj cv;have fq:Xq (aw l y H ((y.alloc (.cells R 9)).alloc (.cells Z 3)) H):=aw.Zbj (aw.refl l y H) cv;have af:Xq ((¬eG H y.heap.size/\¬eG H (y.heap.size+1))/\y.heap.size≠l/\y.heap.size+1≠l):=⟨⟨fun z=>by have:=a5 _ z;omega,fun z=>by have:=a5 _ z;omega⟩,by omega,by omega⟩;have co:Xq (∀f H',aw l y H f H'->aw l M H f H'):=fun f H' t=>dl.o.trans t;clear cv BV BG ey ex a5;go_wp2
   go_loopg [10] A (fun gk iv wr=>∃(i:Nat) (c2:Xs) (V:Nat->Hd) (N:Xu),i<=A/\gk=A-i/\iv=int i64 i/\N.length=i/\Xq (pY v wr l D c2 Ps L V/\aw l y H wr V/\¬eG V y.heap.size/\¬eG V (y.heap.size+1))/\Xq (iJ wr y.heap.size 9 A (dc ((F.take i).map (fun h=>aB (di b h)))))/\Xq (iJ wr (y.heap.size+1) 3 A (eR N))/\Xq (∀j (hj:j<N.length) (h2:j<F.length),bZ c2 (aZ (di b F[j]))=some N[j]))
   ·exact⟨0,Q,H,[],by omega,rfl,rfl,rfl,⟨eV.o,fq.o,af.o.1.1,af.o.1.2⟩,eP,eS,fun j hj=>by exact absurd hj (Zh _)⟩
   obtain⟨i,c2,V,N,hi,gX,rfl,d6,G,be,bd,c6⟩:=hrel;obtain⟨⟨f0,f1⟩,gl⟩:=bc.o wr V (co.o wr V G.o.2.1);rcases kn i A with ⟨ar,g4⟩ | ⟨ar,g5⟩
   ·have cu:i<F.length:=(by rw[ad.o];exact ar);obtain⟨gh,eh,gY,gV⟩:=(cX.o wr V (co.o wr V G.o.2.1)) i F[i] (Xv cu);have av:=cV.o F[i] (XM cu);rw[eh]at f0;clear eh;have bf:Xq (∀p∈L,p.ap<y.heap.size/\∀g,p.ag=some ⟨g,0,none⟩->g<y.heap.size):=fun p Y=>⟨(al.o.far p Y).1.2.2,fun g e=>((al.o.far p Y).2 g e).2.2⟩
    have d8:=G.o.1.kp;have db:Xq _:=bj.o F[i] av wr d8;have ds:Xq _:=cq.o F[i] av;have eE:Xq _:=bk.o F[i] av;have fs:Xq _:=dp.o F[i] av;have fv:Xq (dc ((F.take (i+1)).map (fun h=>aB (di b h)))=dc ((F.take i).map (fun h=>aB (di b h)))++[string (aB b[F[i]])]):=by
     show _=_;rw[Yc cu,Yj];simp[dc,gW av]
    have bq:(dc ((F.take i).map (fun h=>aB (di b h)))).length=i:=(by simp[dc];omega);have bo:(eR N).length=i:=(by simp[eR];exact d6);have fu:Xq (∀(O:Xs) (k:Nat),Ns c2 O->bZ O (aZ b[F[i]])=some k->∀j (hj:j<(N++[k]).length) (h2:j<F.length),bZ O (aZ (di b F[j]))=some (N++[k])[j]):=fun O k g1 g2 j hj h2=>by
     by_cases e:j<N.length
     ·rw[List.getElem_append_left e];exact g1 _ _ (c6.o j e h2)
     ·have f9:j=i:=(by rw[XC]at hj;replace hj:j<N.length+1:=hj;omega);subst f9;rw[List.getElem_append_right (by omega)];simp only[show j-N.length=0 by omega,List.getElem_cons_zero];rw[gW av];exact g2
    generalize F[i]=m at *;generalize b[m]=t at *;generalize S (10+2*m)=ta at *;generalize S (11+2*m)=tp at *;generalize aB t=vv at *;generalize aZ t=tt at *;(go_upto_region 9 with (go_at_call 96;refine Xx db.o ?_;rintro e6 w6 ⟨rfl,k6⟩));obtain⟨W6,ct⟩:∃W,Xq (w6.alloc (.cells #[int i64 t.Zby,string t.Zbz,slice ta.ao t.Zbe.length ta.cap,slice tp.ao t.Zbp.length tp.cap,string t.ZbC.ZbD,int i64 t.ZbC.ZbE,int i64 t.ZbC.ZbF,int i64 t.til] 158)=W):=⟨_,rfl⟩
    have B6:=dC ct.o;have bs:aa [] wr W6:=(by rw[<-ct.o];exact k6.alloc _);obtain⟨tb,cl⟩:=aP (w6.heap.size);have f2:y.heap.size+1<wr.heap.size:=bd.o.lt;have hc:y.heap.size+1<tb:=(by rw[<-cl.o];exact XB f2 k6.size);rw[cl.o]at B6;rw[ct.o,cl.o];have bz:Xq (∀f:World,f.heap[tb]?=W6.heap[tb]?->((f.cell? ⟨tb,0,none⟩=some (int i64 t.Zby)/\f.cell? ⟨tb,1,none⟩=some (string t.Zbz)/\f.cell? ⟨tb,2,none⟩=some (slice ta.ao t.Zbe.length ta.cap)/\f.cell? ⟨tb,3,none⟩=some (slice tp.ao t.Zbp.length tp.cap))/\(f.cell? ⟨tb,4,none⟩=some (string t.ZbC.ZbD)/\f.cell? ⟨tb,5,none⟩=some (int i64 t.ZbC.ZbE)/\f.cell? ⟨tb,6,none⟩=some (int i64 t.ZbC.ZbF)/\f.cell? ⟨tb,7,none⟩=some (int i64 t.til)))/\tb<f.heap.size):=fun f q=>by
     have B:=q.trans B6;refine⟨⟨⟨?_,?_,?_,?_⟩,⟨?_,?_,?_,?_⟩⟩,ah B⟩ <;> (rw[ab B];rfl)
    obtain⟨⟨⟨r0,r1,r2,r3⟩,r4,r5,r6,r7⟩,r8⟩:=bz.o W6 rfl;have dt:Xq _:=ds.o W6 (d8.trans bs);have am:Xq (∀f,aa [] wr f->(∃u,f.cell? ⟨y.heap.size,i,none⟩=some u)/\f.frozen? ⟨y.heap.size,i,none⟩=false/\y.heap.size<f.heap.size):=fun f q=>by
     have:=(be.o.Zbj q).put (by rw[bq];exact ar);rw[bq]at this;exact⟨this.1,this.2.1,(be.o.Zbj q).lt⟩
    have c4:Xq (∀f,aa [] wr f->iJ (f.setCell ⟨y.heap.size,i,none⟩ (string vv)) y.heap.size 9 A (dc ((F.take (i+1)).map (fun h=>aB (di b h))))):=fun f q=>by
     have:=((be.o.Zbj q).put (by rw[bq];exact ar)).2.2 (string vv);rw[bq]at this;rw[fv.o];exact this
    clear B6 db ds;(go_upto_region 10 with (go_at_call 188;refine Xx dt.o ?_;rintro e7 U ⟨rfl,k7⟩;obtain⟨⟨u0,g0⟩,fx,gd⟩:=am.o U (bs.trans k7)));obtain⟨W8,aq⟩:∃W,Xq (U.setCell ⟨y.heap.size,i,none⟩ (string vv)=W):=⟨_,rfl⟩
    have a6:aa [] wr U:=bs.trans k7;have ef:∀p∈L,p.ap≠y.heap.size/\∀g,p.ag=some ⟨g,0,none⟩->g≠y.heap.size:=fun p Y=>⟨by have:=(bf.o p Y).1;omega,fun g e=>by have:=(bf.o p Y).2 g e;omega⟩
    have b6:∀p∈L,p.ap≠y.heap.size+1/\∀g,p.ag=some ⟨g,0,none⟩->g≠y.heap.size+1:=fun p Y=>⟨by have:=(bf.o p Y).1;omega,fun g e=>by have:=(bf.o p Y).2 g e;omega⟩
    have gc:v.heap.size<=y.heap.size:=al.o.kp.size;have K8:aa [y.heap.size] U W8:=(by rw[<-aq.o];exact(aa.refl _ _).sl1 _);have cT:Xq (pY v W8 l D c2 Ps L V):=(G.o.1.Zbj a6).side K8 gc (fun e=>af.o.2.1 e.symm) G.o.2.2.1 ef;have fp:Xq (aw l y H W8 V):=by
     have t:=aw.Zbj G.o.2.1 a6;rw[<-aq.o];exact⟨t.1.sr1 (Xy _) _,t.2⟩
    have cb:Xq _:=c4.o U a6;have cL:Xq (iJ W8 (y.heap.size+1) 3 A (eR N)):=by
     rw[<-aq.o];exact(bd.o.Zbj a6).other _ _ (by omega)
    have d0:W8.heap[tb]?=W6.heap[tb]?:=by
     rw[<-aq.o,XN _ _ _ _ (show tb≠y.heap.size by omega)];exact k7.block tb r8 (by simp)
    rw[aq.o]at cb ⊢;obtain⟨⟨⟨v0,v1,v2,v3⟩,v4,v5,v6,v7⟩,v8⟩:=bz.o W8 d0;have eH:Xq _:=eE.o W8 cT.o.kp;have a1:=cE.o c2 G.o.1.dist G.o.1.sub;have ca:Xq (∀f,aa [] W8 f->Calls prog 189 #[pointer (some ⟨l,0,none⟩),string tt] f fun e I=>zB v l D c2 Ps L V tt f e I):=fun f q=>xA v l D c2 Ps L V tt f (cT.o.Zbj q) fs.o a1;have ai:Xq _:=G.o.2.2;have cS:Xq (∀J C E,aa [] W8 J->aw l J V C E->(iJ C y.heap.size 9 A (dc ((F.take (i+1)).map (fun h=>aB (di b h))))/\iJ C (y.heap.size+1) 3 A (eR N))/\((∃u,C.cell? ⟨y.heap.size+1,i,none⟩=some u)/\C.frozen? ⟨y.heap.size+1,i,none⟩=false/\y.heap.size+1<C.heap.size)/\¬eG E y.heap.size/\¬eG E (y.heap.size+1)):=fun J C E q tq=>by
     have l1:=(iJ.Zbj cb.o q).lt;have l2:=(iJ.Zbj cL.o q).lt;have g1:=(iJ.Zbj cb.o q).keptQ tq.1 (fun z=>z.elim (fun e=>af.o.2.1 e) ai.o.1);have g2:=(iJ.Zbj cL.o q).keptQ tq.1 (fun z=>z.elim (fun e=>af.o.2.2 e) ai.o.2);have g3:=g2.put (by rw[bo];exact ar);rw[bo]at g3;exact⟨⟨g1,g2⟩,⟨g3.1,g3.2.1,g2.lt⟩,tq.fresh _ l1 ai.o.1,tq.fresh _ l2 ai.o.2⟩
    have eL:Xq (∀J C O E k,aa [] W8 J->aw l J V C E->pY v C l D O Ps L E->Ns c2 O->bZ O tt=some k->(pY v (C.setCell ⟨y.heap.size+1,i,none⟩ (int i64 ((k:Nat):Int))) l D O Ps L E/\aw l y H (C.setCell ⟨y.heap.size+1,i,none⟩ (int i64 ((k:Nat):Int))) E/\¬eG E y.heap.size/\¬eG E (y.heap.size+1))/\iJ (C.setCell ⟨y.heap.size+1,i,none⟩ (int i64 ((k:Nat):Int))) y.heap.size 9 A (dc ((F.take (i+1)).map (fun h=>aB (di b h))))/\iJ (C.setCell ⟨y.heap.size+1,i,none⟩ (int i64 ((k:Nat):Int))) (y.heap.size+1) 3 A (eR (N++[k]))):=fun J C O E k q tq gq gr pk=>by
     obtain⟨⟨g1,g2⟩,-,n1,n2⟩:=cS.o J C E q tq;have g3:=(g2.put (by rw[bo];exact ar)).2.2 (int i64 ((k:Nat):Int));rw[bo]at g3;have et:=(fp.o.Zbj q).trans tq;refine⟨⟨gq.side ((aa.refl [y.heap.size+1] C).sl1 _) (by omega) (fun e=>af.o.2.2 e.symm) n2 b6,⟨et.1.setCell (XK (ZU _)) _,et.2⟩,n1,n2⟩,g1.other _ _ (by omega),?_⟩;have e:eR (N++[k])=eR N++[int i64 ((k:Nat):Int)]:=(by simp[eR]);rw[e];exact g3
    clear r0 r1 r2 r3 r4 r5 r6 r7 r8 u0 g0 fx gd bs k7 K8 a6 d0 aq am c4 dt ef b6;go_wp2_with (first | (go_at_call 190;refine Xx eH.o ?_;rintro e9 J ⟨rfl,k9⟩) | (go_at_call 189;refine Xx (ca.o _ k9) ?_;rintro gL C ⟨O,E,kk,rfl,bp,d4,b5,a4⟩;obtain⟨-,⟨⟨u9,g9⟩,gP,ge⟩,-⟩:=cS.o J C E k9 b5));go_roundg (A-(i+1))
    ·obtain⟨q1,q2,q3⟩:=eL.o J C O E kk k9 b5 d4 a4 bp;exact⟨i+1,O,E,N++[kk],by omega,rfl,by go_num,by rw[XC,d6];rfl,q1,q2,q3,fu.o O kk a4 bp⟩
    omega
   ·have gv:i=A:=(by omega);have T0:=co.o wr V G.o.2.1;obtain⟨⟨⟨v0,v1,v2,v3⟩,v4,v5,v6,v7⟩,v8⟩:=an.o wr V T0;have ga:=G.o.1.kp;have ft:Xq _:=ck.o wr ga;have a1:=cE.o c2 G.o.1.dist G.o.1.sub;have ca:Xq (∀f,aa [] wr f->Calls prog 189 #[pointer (some ⟨l,0,none⟩),string (aZ s)] f fun e I=>zB v l D c2 Ps L V (aZ s) f e I):=fun f q=>xA v l D c2 Ps L V (aZ s) f (G.o.1.Zbj q) fr.o a1;have dk:Xq (∀w6 U E,aa [] wr w6->aw l w6 V U E->aw l M H U E):=fun w6 U E q tq=>(aw.Zbj T0 q).trans tq;obtain⟨vs,cs⟩:=aP (F.map (fun h=>aB (di b h)));have b7:vs.length=A:=(by rw[<-cs.o,XZ];exact ad.o);have cR:Xq (iJ wr y.heap.size 9 A (dc vs)):=by
     have:=be.o;rw[YV (by rw[ad.o];omega),cs.o]at this;exact this
    have b1:N.length=A:=(by omega);have ai:Xq _:=G.o.2.2;have fa:Xq (∀(hr:Hd) f U E w6,aa [] wr w6->aw l w6 V U E->aa [] U f->dB f hr o->Calls prog 192 #[slice hr.ao o.length hr.cap,slice (some ⟨y.heap.size,0,none⟩) A A] f fun e I=>∃a,e=returned (slice (some ⟨a,0,none⟩) o.length o.length)/\cW I (some ⟨a,0,none⟩) 2 (ptD vs) o/\f.heap.size<=a/\a<I.heap.size/\aa [] f I):=fun hr f U E w6 q1 tq q2 a7=>by
     have g1:=(iJ.Zbj cR.o q1).keptQ tq.1 (fun z=>z.elim (fun e=>af.o.2.1 e) ai.o.1);have:=Id hr ⟨some ⟨y.heap.size,0,none⟩,A⟩ o vs f a7 ((iJ.Zbj g1 q2).view b7 (by omega)) (by have:=bx.o;omega) (by omega);rw[b7]at this;exact this
    have fi:Xq (∀f,aa [] v f->_):=bg.o;clear bg ck bk bj cq;(go_upto_region 12 with (first | (go_at_call 190;refine Xx ft.o ?_;rintro e6 w6 ⟨rfl,k6⟩) | (go_at_call 189;refine Xx (ca.o _ k6) ?_;rintro e7 U ⟨O,E,k,rfl,bp,a2,ax,a4⟩)));obtain⟨⟨⟨y0,y1,y2,y3⟩,y4,y5,y6,y7⟩,y8⟩:=an.o U E (dk.o w6 U E k6 ax);have fk:Xq _:=fi.o U a2.kp;have fd:Xq _:=(fun(hr:Hd) f (q:aa [] U f) (a7:dB f hr o)=>fa.o hr f U E w6 k6 ax q a7);clear v0 v1 v2 v3 v4 v5 v6 v7 v8;(go_upto_region 13 with (first | (go_at_call 102;refine Xx fk.o ?_;rintro e8 w8 ⟨gb,rfl,ev,k8⟩) | (go_at_call 192;refine Xx (fd.o gb _ k8 ev) ?_;rintro e9 J ⟨a,rfl,eb,ge,gf,k9⟩)));have ac:aa [] U J:=k8.trans k9;have a3:=a2.Zbj ac;have hd:U.heap.size<=w8.heap.size:=k8.size;have eT:Xq _:=a3;have T7:=dk.o w6 U E k6 ax;have c1:J.cell? ⟨K,1,none⟩=some (string s.Zbz):=((an.o J E (aw.Zbj T7 ac)).1).1.2.1;have gz:=(an.o J E (aw.Zbj T7 ac)).2;obtain⟨-,d1,gt⟩:=a3.cells;have gH:=a3.bag.free 1;have d5:¬eG E (y.heap.size+1):=ax.fresh _ (iJ.Zbj bd.o k6).lt ai.o.2;have df:Xq (n8 J (some ⟨y.heap.size+1,0,none⟩) N/\y.heap.size+1<J.heap.size):=by
     have g2:=iJ.Zbj ((iJ.Zbj bd.o k6).keptQ ax.1 (fun z=>z.elim (fun e=>af.o.2.2 e) ai.o.2)) ac;exact⟨g2.srcN,g2.lt⟩
    obtain⟨p,HP⟩:∃p:oy,Xq (p=⟨s.Zbz,k,a,o.length,some ⟨y.heap.size+1,0,none⟩,N⟩):=⟨_,rfl⟩
    have c5:Xq (p9 J O p PP):=by
     rw[HP.o,fe.o];refine⟨rfl,bp,rfl,?_,?_,?_,df.o.1,fun a7 hv=>?_⟩
     ·show cW J (some ⟨a,0,none⟩) 2 (ptD (F.map (fun h=>aB (di b h)))) o;rw[cs.o];exact eb
     ·show N.length=(F.map (fun h=>aZ (di b h))).length;rw[XZ,ad.o];exact b1
     ·show(F.map (fun h=>aB (di b h))).length=(F.map (fun h=>aZ (di b h))).length
      rw[XZ,XZ]
     ·have hv:a7<N.length:=hv;have eg:a7<F.length:=(by rw[ad.o];omega);show bZ O ((F.map (fun h=>aZ (di b h))).getD a7 ⟨#[]⟩)=some N[a7];rw[Xw,Yi,Xv eg];exact a4 _ _ (c6.o a7 hv eg)
    have cP:Xq ((p.ap≠l/\¬eG E p.ap/\p.ap<J.heap.size)/\∀g,p.ag=some ⟨g,0,none⟩->g≠l/\¬eG E g/\g<J.heap.size):=by
     rw[HP.o];have gp:=a2.bag.lt;refine⟨⟨by show a≠l;omega,fun z=>by have:=a2.bag.inlt z;have:a<U.heap.size:=this;omega,gf⟩,fun g e=>?_⟩;have e:some (⟨y.heap.size+1,0,none⟩:Addr)=some ⟨g,0,none⟩:=e;cases e
     exact⟨af.o.2.2,d5,df.o.2⟩
    have am:Xq (Xi p=[string s.Zbz,int i64 k,slice (some ⟨a,0,none⟩) o.length o.length,slice (some ⟨y.heap.size+1,0,none⟩) A A]):=(by rw[HP.o];show [_,_,_,slice _ N.length N.length]=_;rw[b1]);obtain⟨iP,f7,em,en,eo⟩:=XV RT;have hD:Xq _:=aO.Zbj a3.bag ((aa.refl [] J).alloc (.cells #[string s.Zbz,int i64 k,slice (some ⟨a,0,none⟩) o.length o.length,slice (some ⟨y.heap.size+1,0,none⟩) A A] 289)).drew;have s2:Xq (∀j u,([string s.Zbz,int i64 k,slice (some ⟨a,0,none⟩) o.length o.length,slice (some ⟨y.heap.size+1,0,none⟩) A A]:List Value)[j]?=some u->(J.alloc (.cells #[string s.Zbz,int i64 k,slice (some ⟨a,0,none⟩) o.length o.length,slice (some ⟨y.heap.size+1,0,none⟩) A A] 289)).drew.cell? ((⟨J.heap.size,0,none⟩:Addr).add j)=some u):=by
     intro j u hj;have hk:(J.alloc (.cells #[string s.Zbz,int i64 k,slice (some ⟨a,0,none⟩) o.length o.length,slice (some ⟨y.heap.size+1,0,none⟩) A A] 289)).drew.heap[J.heap.size]?=some (.cells #[string s.Zbz,int i64 k,slice (some ⟨a,0,none⟩) o.length o.length,slice (some ⟨y.heap.size+1,0,none⟩) A A] 289):=XD _ _;rw[bE,ab hk];simpa using hj
    have s3:Xq (∀u∈([string s.Zbz,int i64 k,slice (some ⟨a,0,none⟩) o.length o.length,slice (some ⟨y.heap.size+1,0,none⟩) A A]:List Value),u.oneCell'=true):=(by rw[<-am.o];exact MP p);have s4:Xq ((sg L).n+1<=maxLen):=(by show L.length+1<=_;unfold maxLen;omega);have s5:Xq (((sg L).n+1)*72<=140737488355328):=(by show(L.length+1)*72<=_;omega);have bw:Xq (∀wz H4,aO wz l 235 (N8 O (L++[p]) H4) (N9 O (L++[p])) H4->aw l (J.alloc (.cells #[string s.Zbz,int i64 k,slice (some ⟨a,0,none⟩) o.length o.length,slice (some ⟨y.heap.size+1,0,none⟩) A A] 289)).drew E wz H4->GbS v l D Ps PP H w (returned (tuple #[])) wz):=fun wz H4 g1 g2=>by
     have g3:=g2.first ((aa.refl [] J).alloc (.cells #[string s.Zbz,int i64 k,slice (some ⟨a,0,none⟩) o.length o.length,slice (some ⟨y.heap.size+1,0,none⟩) A A] 289)).drew;exact⟨rfl,O,L++[p],H4,eT.o.push c5.o cP.o g3 g1,aw.first aT.o ((aw.Zbj T7 ac).trans g3)⟩
    have cx:=fun X=>Bc X p;rw[am.o]at cx;have fl:Xq _:=cx;have gA:=fun w=>NL w s.Zbz (k:Int) (some ⟨a,0,none⟩) (some ⟨y.heap.size+1,0,none⟩) o.length o.length A A;have cB:Xq _:=(fun wz H4 g1 g2=>az.o _ wz (bw.o wz H4 g1 g2));generalize s.Zbz=lb at *;clear cx c5 cP am HP a2 ax a4 k6 k8 k9 y0 y1 y2 y3 y4 y5 y6 y7 y8 a3 eb ev T7 T0 bw ac;go_region_law (refine bB rfl (.tmp 78) (.tmp 85) 233 rfl iP (agg #[string ⟨#[]⟩,int i64 0,slice none 0 0,slice none 0 0]) 72 (E 1) (sg L) underlying233 f7 em en eo rfl (by show 0<4;omega) (by simp[Act.eval] <;> rfl) (aO.ZbH hD.o 1) ⟨J.heap.size,0,none⟩ 1 1 [string lb,int i64 k,slice (some ⟨a,0,none⟩) o.length o.length,slice (some ⟨y.heap.size+1,0,none⟩) A A] (by simp[Act.eval]) rfl s2.o s3.o XR s4.o s5.o ?_;intro g6 bT C ei b2 b0;obtain⟨k6,f6,c0⟩:=aO.app hD.o (cs':=N8 O (L++[p]) (gj E 1 ⟨some ⟨g6,0,none⟩,bT⟩)) (rows':=N9 O (L++[p])) 1 1 g6 bT (L.length+1) _ ei (fl.o L) b2 (by simpa using b0) (GD O L _) _ rfl (by simp[N8,gj]);clear ei b2 b0)
    all_goals go_wp2
    all_goals go_end0
    all_goals exact cB.o _ _ c0.o.1 c0.o.2
 ·have eY:Xq (ir=false):=by
   show _=_;rw[aS.o];cases cA with
   | nil=>exact absurd (show([]:List Pr).length=np from cf.o) (fun e=>b3 e.symm)
   | cons a r=>rfl
  have b4:(np:Int) > 0:=by omega
  have d9:0<np:=by omega
  have gw:decide (0<np)=true:=YX d9;have gx:decide ((np:Int) > 0)=true:=YX b4;have az:Xq _:=b8.o eY.o;clear aS ba;go_quiet (fail)
  all_goals go_wp2
  all_goals go_end0
  all_goals exact az.o _ (aT.o.drewN _)
theorem Nj(c:Xs):∀t:Xs,vK c->(∀x∈c,x∈t)->c.length<=t.length:=by
 induction c with
 | nil=>intro t _ _;exact XX _
 | cons x r p =>
  intro t g k;obtain⟨a,b,rfl⟩:=List.append_of_mem (k x (by simp));have o:vK r:=fun i j m d=>by
   have:=g (i+1) (j+1) (by omega) (by simpa using d);simpa using this
  have n:∀y∈r,y≠x:=fun y f e=>by
   obtain⟨j,d,rfl⟩:=Yr f;have:=g 0 (j+1) (by omega) (by simpa using d);rw[show(x :: r).getD 0 ⟨#[]⟩=x from rfl,show(x :: r).getD (j+1) ⟨#[]⟩=r.getD j ⟨#[]⟩ from rfl,kK _ _ d,e]at this;simp at this
  have:=p (a++b) o (fun y f=>by
   have l:=k y (by simp[f]);rcases X9.1 l with q | q
   ·exact Yx _ q
   ·rcases Yd.1 q with q | q
    ·exact absurd q (n y f)
    ·exact YT _ q)
  rw[XC]at this ⊢;simp only[List.length_cons];omega
def MI(l:List St)(hy:Xu)(i:Nat):List dZ:=((hy.take i).filter (fun h=>(di l h).Zby==2)).map (fun h=>VG (di l h))
def Qq(l:List St)(n:Nat):List dZ:=((List.range n).filter (fun n=>((di l n).Zby==4)&&sA l n)).map (Dn l)
theorem VN(a:H<m.length):MI b m (H+1)=MI b m H++(if((di b m[H]).Zby==2)=true then [VG (di b m[H])] else []):=by
 unfold MI;rw[Yc a,Yy,Yj];congr 1;cases h:((di b m[H]).Zby==2) <;> simp[h]
theorem UO:Qq b (H+1)=Qq b H++(if(((di b H).Zby==4)&&sA b H)=true then [Dn b H] else []):=by
 unfold Qq;rw[YG,Yy,Yj];congr 1;cases h:(((di b H).Zby==4)&&sA b H) <;> simp[h]
theorem Sf:(MI b m H).length<=m.length:=by
 unfold MI;rw[XZ];exact XF (YE _ _) (by rw[YL];omega)
theorem zaj:(Qq b H).length<=H:=by
 unfold Qq;rw[XZ];exact XF (YE _ _) (by rw[YW];omega)
theorem QZ:(Instr.build 235 #[]).run prog y=.ok (agg #[slice none 0 0,slice none 0 0]) y :=
 Za9 y 235 _ _ (by kernel_rfl)
theorem Rl(l c u:Int)(a f:Xr)(b d:Xt)(i e j g:Nat) :
  (Instr.field 158 (agg #[int i64 z0,string a,slice b i e,slice d j g,string f,int i64 l,int i64 c,int i64 u]) 0).run prog v=.ok (int i64 z0) v:=by kernel_rfl
def OfS(tcs:Xs)(Ps:List dZ)(w:World)(e:Ending)(w':World):Prop:=∃gm codes L H,e=returned (pointer (some ⟨gm,0,none⟩))/\pY w w' gm tcs codes Ps L H
theorem Vm(hR:dQ y d T b S)(ok:iV b)(ha:l<b.length) :
  Calls prog 103 #[pointer (some ⟨d,T,none⟩),int i64 l] y fun e C=>OfS (b.map aZ) (nR b l) y e C:=by
 have bf:=ok.len;have bp:=sS b l;have a1:Xq _:=Ev b l;have aq:Xq (∀a,aa [] y a->Calls prog 141 #[pointer (some ⟨d,T,none⟩),int i64 l] a fun e C=>∃N:Hd,e=returned (slice N.ao (aM b l).length N.cap)/\aD C N (bK (aM b l))/\(∀k,N.Zbx=some k->a.heap.size<=k)/\aa [] a C):=fun a q=>mb d T l b S a (hR.Zbj q) ha ok;have U:Xq (∀m (M:m<b.length) a,aa [] y a->Calls prog 96 #[pointer (some ⟨d,T,none⟩),int i64 m] a fun e C=>e=returned (du b[m] (S (10+2*m)) (S (11+2*m)))/\aa [] a C):=fun m M a q=>bu d T m b S a (hR.Zbj q) M;have aS:Xq (∀a,aa [] y a->Calls prog 79 #[pointer (some ⟨d,T,none⟩)] a fun e C=>e=returned (int i64 b.length)/\C=a):=fun a q=>fn d T b S a (hR.Zbj q);have J:Xq (∀s∈b,aZ s∈b.map aZ):=fun s hs=>ZQ hs;have I:Xq (∀(w:Xs),vK w->(∀c∈w,c∈b.map aZ)->w.length<=100000):=fun w h1 h2=>by
  have:=Nj w _ h1 h2;rw[XZ]at this;omega
 have O:Xq (∀m (M:m<b.length) u f K L H a,pY y a u (b.map aZ) f K L H->L.length<=100000->Calls prog 142 #[pointer (some ⟨u,0,none⟩),du b[m] (S (10+2*m)) (S (11+2*m))] a fun e C=>GbS y u (b.map aZ) K (VG b[m]) H a e C):=fun m M u f K L H a g hl =>
  yX y u _ f K L H b[m] _ _ a g (hR.viewN m M) (by have:=ok.syms m M;omega) (J.o _ (XM M)) (I.o f g.dist g.sub) hl
 have ac:Xq (∀m (_:m<b.length) u f K L H a,pY y a u (b.map aZ) f K L H->L.length<=100000->Calls prog 143 #[pointer (some ⟨u,0,none⟩),pointer (some ⟨d,T,none⟩),int i64 m] a fun e C=>Xn y u (b.map aZ) K b m H a e C):=fun m M u f K L H a g hl =>
  DT y d T u b S _ f K L H m a g hR ok M J.o I.o hl
 have ai:Xq (nR b l=MI b (aM b l) (aM b l).length++Qq b l):=by
  show _=_;unfold nR MI Qq;rw[Yl]
 have bj:=QZ;unfold du at U O;generalize aM b l=o at *;obtain⟨A,ap⟩:∃t,Xq (b.map aZ=t):=⟨_,rfl⟩
 rw[ap.o]at J I O ac ⊢;rw[ai.o];clear hR ok J I ai;go_enter func103,ntmps103;go_upto_region 2 with fail
 obtain⟨W,HW⟩:=aP (y.alloc (.cells #[slice none 0 0,slice none 0 0] 235));have kW:=dx HW.o;have Q:Xq (pY y W y.heap.size A [] [] [] (fun _=>⟨none,0⟩)):=by
  refine⟨⟨by rw[<-HW.o];exact XD _ _,fun i=>?_,fun _ _ _=>XQ rfl,fun _=>by simp[Hd.Zbx]⟩,kW,Xy _,fun k hk=>by obtain⟨i,hi⟩:=hk;simp[Hd.Zbx]at hi,rfl,(fun n p P h1=>by cases h1),(fun p hp=>by cases hp),(fun i j _ hj=>by cases hj),fun c hc=>by cases hc⟩
  match i with
  | 0=>exact XE _ _ _ _
  | 1=>exact XE _ _ _ _
  | i+2=>exact XE _ _ _ _
 have a6:Xq _:=aq.o W kW;have be:y.heap.size<W.heap.size:=Q.o.bag.lt;obtain⟨u,af⟩:=aP (y.heap.size);rw[af.o]at Q be;rw[HW.o,af.o];clear aq;go_upto_region 3 with (go_at_call 141;refine Xx a6.o ?_;rintro e1 w1 ⟨N,rfl,oh,ar,k1⟩)
 have aT:Xq (pY y w1 u A [] [] [] (fun _=>⟨none,0⟩)):=Q.o.Zbj k1;have a3:Xq (∀a H',aw u w1 (fun _=>⟨none,0⟩) a H'->n8 a N.ao o):=fun a H' t=>by
  intro k x hk;have hl:k<o.length:=(XL.1 hk).1;rcases oh.Zbu with ⟨-,e0,-⟩ | ⟨g,bk,e1,e2,e3,-⟩
  ·have e0:o.length=0:=e0;omega
  ·have bc:N.Zbx=some g:=(by unfold Hd.Zbx;rw[e1];rfl);have bl:=ar g bc;have B:=t.1.block g (ah e2) (fun z=>z.elim (fun e=>by omega) (fun z=>by obtain⟨i,hi⟩:=z;simp[Hd.Zbx]at hi));refine⟨g,e1,by rw[e2]at B;exact ah B,?_⟩;rw[XJ B];exact oh.cell e1 k _ (by simp[bK,eR,hk])
 clear oh ar k1;obtain⟨AO,ad⟩:=aP (N.ao);rw[ad.o];go_wp2
 go_loopg [7] o.length (fun gk iv wr=>∃(i:Nat) (w:Xs) (G:List oy) (E:Nat->Hd),i<=o.length/\gk=o.length-i/\iv=int i64 i/\Xq (pY y wr u A w (MI b o i) G E/\aw u w1 (fun _=>⟨none,0⟩) wr E))
 ·exact⟨0,[],[],_,by omega,rfl,rfl,aT.o,aw.refl _ _ _⟩
 obtain⟨i,w,G,E,hi,bd,rfl,v⟩:=hrel;rcases kn i o.length with ⟨D,bq⟩ | ⟨D,br⟩
 ·obtain⟨gh,eh,bo,bm⟩:=(a3.o wr E v.o.2) i o[i] (Xv D);have Y:=a1.o o[i] (XM D);have a7:G.length<=100000:=by have h1:=v.o.1.len;have h2:=Sf b o i;omega
  have al:Xq _:=U.o o[i] Y wr v.o.1.kp;have a4:Xq _:=(fun a g=>O.o o[i] Y u w (MI b o i) G E a g a7);have r:Xq _:=VN b o i D;rw[gW Y]at r;obtain rfl:AO=some ⟨gh,0,none⟩:=ad.o.symm.trans eh;generalize o[i]=m at *;generalize b[m]=t at *;generalize S (10+2*m)=ta at *;generalize S (11+2*m)=tp at *;clear eh;go_upto_region 7 with (go_at_call 96;refine Xx al.o ?_;rintro e6 w6 ⟨rfl,k6⟩)
  obtain⟨W6,V⟩:∃W,Xq (w6.alloc (.cells #[int i64 t.Zby,string t.Zbz,slice ta.ao t.Zbe.length ta.cap,slice tp.ao t.Zbp.length tp.cap,string t.ZbC.ZbD,int i64 t.ZbC.ZbE,int i64 t.ZbC.ZbF,int i64 t.til] 158)=W):=⟨_,rfl⟩
  have B6:=dC V.o;have ag:Xq (aa [] wr W6):=by show aa [] wr W6;rw[<-V.o];exact k6.alloc _
  obtain⟨tb,an⟩:=aP (w6.heap.size);rw[an.o]at B6;rw[V.o,an.o];obtain⟨r0,r1,r2,r3,r4,r5,r6,r7⟩:=yY B6;have r8:=ah B6;have R:Xq (pY y W6 u A w (MI b o i) G E):=v.o.1.Zbj ag.o;have am:Xq (aw u w1 (fun _=>⟨none,0⟩) W6 E):=aw.Zbj v.o.2 ag.o;clear B6 al k6;cases av:(t.Zby==2)
  ·rw[av,Xz (by simp),Ya]at r;rw[<-r.o]at R;go_wp2;go_roundg (o.length-(i+1))
   ·exact⟨i+1,w,G,E,by omega,rfl,by go_num,R.o,am.o⟩
   omega
  ·rw[av,XA rfl]at r;have a5:Xq _:=a4.o W6 R.o;go_wp2_with (go_at_call 142;refine Xx a5.o ?_;rintro e7 w7 ⟨rfl,c3,X,H3,q1,q2⟩);rw[<-r.o]at q1;go_roundg (o.length-(i+1))
   ·exact⟨i+1,c3,X,H3,by omega,rfl,by go_num,q1,am.o.trans q2⟩
   omega
 ·obtain rfl:i=o.length:=by omega
  have a0:Xq _:=v.o.1;clear v;go_wp2
  go_loopg [9] l (fun gk nv wr=>∃(n:Nat) (w:Xs) (G:List oy) (E:Nat->Hd),n<=l/\gk=l-n/\nv=int i64 n/\Xq (pY y wr u A w (MI b o o.length++Qq b n) G E))
  ·exact⟨0,w,G,E,by omega,rfl,rfl,by show pY y wr u A w (MI b o o.length++Qq b 0) G E;rw[show Qq b 0=[] from rfl,Ya];exact a0.o⟩
  obtain⟨n,c3,X,H3,hn,bd,rfl,v⟩:=hrel;rcases kn n l with ⟨D,bs⟩ | ⟨D,bv⟩
  ·have Z:n<b.length:=(by omega);have bg:(n:Int)<b.length:=(by omega);have HC:Xq _:=aS.o wr v.o.kp;have HS:Xq _:=U.o n Z wr v.o.kp;have ba:X.length<=100000:=by
    have h1:=v.o.len;have h2:=Sf b o o.length;have h3:=zaj b n;rw[XC]at h1;omega
   have HA:Xq _:=(fun a g=>ac.o n Z u c3 (MI b o o.length++Qq b n) X H3 a g ba);have r:Xq _:=UO b n;rw[gW Z]at r;generalize b[n]=t at *;have fk:=fun y a2=>Rl y t.Zby t.ZbC.ZbE t.ZbC.ZbF t.til t.Zbz t.ZbC.ZbD (S (10+2*n)).ao (S (11+2*n)).ao t.Zbe.length (S (10+2*n)).cap t.Zbp.length a2;cases ax:(t.Zby==4)
   ·rw[ax,Zz,Xz (by simp),Ya]at r;rw[<-r.o]at v;go_wp2_with (first | (go_at_call 79;refine Xx HC.o ?_;rintro e2 w2 ⟨rfl,F⟩;rw[F];clear F) | (go_at_call 96;refine Xx HS.o ?_;rintro e3 w3 ⟨rfl,k3⟩));go_roundg (l-(n+1))
    ·exact⟨n+1,c3,X,H3,by omega,rfl,by go_num,v.o.Zbj k3⟩
    omega
   ·rw[ax,Y0]at r;(go_upto_region 13 with (first | (go_at_call 79;refine Xx HC.o ?_;rintro e2 w2 ⟨rfl,F⟩;rw[F];clear F) | (go_at_call 96;refine Xx HS.o ?_;rintro e3 w3 ⟨rfl,k3⟩)));have az:Xq (Calls prog 143 #[pointer (some ⟨u,0,none⟩),pointer (some ⟨d,T,none⟩),int i64 n] w3 fun e C=>e=returned (tuple #[])/\∃c4 L4 H4,pY y C u A c4 (MI b o o.length++Qq b (n+1)) L4 H4):=by
     refine(HA.o w3 (v.o.Zbj k3)).mono ?_;intro e C hx;unfold Xn at hx;rw[r.o];by_cases hr:sA b n=true
     ·rw[XA hr]at hx ⊢;obtain⟨he,c4,L4,H4,q1,-⟩:=hx;rw[<-Y2];exact⟨he,c4,L4,H4,q1⟩
     ·rw[Xz hr]at hx ⊢;rw[Ya];exact⟨hx.1,c3,X,H3,(v.o.Zbj k3).Zbj hx.2⟩
    clear r HA v;go_wp2_with (go_at_call 143;refine Xx az.o ?_;rintro e4 w4 ⟨rfl,c4,L4,H4,q1⟩);go_roundg (l-(n+1))
    ·exact⟨n+1,c4,L4,H4,by omega,rfl,by go_num,q1⟩
    omega
  ·obtain rfl:n=l:=(by omega);go_wp2;go_ret;exact⟨u,c3,X,H3,rfl,v.o⟩
theorem pY.gmAt(h:pY f k n o g z2 I N):xd k n g z2 I (N 0) (N 1):=by
 have b:aD k (N 1) (lu 289 4 Xi I):=h.bag.ZbH 1;refine⟨h.bag.Zbx,(aO.ZbH h.bag 0).view,b.srcG (fun _=>rfl),?_,h.len,h.each⟩;rcases b.Zbu with ⟨-,a,-⟩ | ⟨j,c,e,i,d,-⟩
 ·have a:I.length=0:=a;omega
 ·exact d
theorem MU(c:iV M)(P:dZ)(d:P∈nR M n):P.body.length<=10000/\P.vars.length<=10000:=by
 rcases X9.1 d with h | h
 ·obtain⟨a,-,rfl⟩:=YN.1 h;exact⟨by show 1<=_;omega,XX _⟩
 ·obtain⟨a,-,rfl⟩:=YN.1 h;refine⟨?_,?_⟩
  ·show((di M a).Zbe.drop 1).length<=_
   rw[Ym];by_cases b:a<M.length
   ·rw[gW b];have:=c.syms a b;omega
   ·unfold di;rw[Yb (by omega)];show 0-1<=_;omega
  ·show((aM M a).map _).length<=_
   rw[XZ];exact XF (sS M a) c.len
theorem SO:(nR b H).length<=b.length+H:=by
 unfold nR;rw[XC,XZ,XZ];have c:=YE (fun h=>(di b h).Zby==2) (aM b H);have a:=YE (fun n=>((di b n).Zby==4)&&sA b n) (List.range H);rw[YW]at a;have:=sS b H;omega
theorem pY.ct{e:Hd}(h:pY f k n (M.map aZ) o (nR M x) I N)(i:iV M)(m:x<M.length)(l:dB k e g)(r:g.length<=10):Fz k n e g o (nR M x) I (N 0) (N 1):=by
 have p:=i.len;have j:=Nj o _ h.dist h.sub;rw[XZ]at j;have q:o.length*(g.length+1)<=10000*11:=YF (by omega) (by omega);refine⟨h.gmAt,l,by omega,by omega,fun P a=>by have:=(MU i P a).1;omega,by have:=SO M x;omega,h.dist,fun P a=>?_⟩;obtain⟨c,d,rfl⟩:=Yr a;have b:c<I.length:=by rw[h.len];exact d
 exact⟨_,(h.each c I[c] _ (Xv b) (Xv d)).cod⟩
def BO(rest:Xs)(Ps:List dZ)(code:Xr)(res:Int×Xs):Prop:=if 10<rest.length then res=(3,[]) else sF rest Ps code res
def qr(l:List St)(lab code:Xr)(res:Int×Xs):Prop:=match lH l lab with
 | none=>res=(8,[])
 | some n=>BO ((di l n).Zbe.drop 1) (nR l n) code res
def yQ(fs:Fs)(st:Option Nat)(lab code:Xr)(res:Int×Xs):Prop:=match st with
 | none=>res=(7,[])
 | some k=>qr (cK fs k).2.2.Zbv lab code res
def Qy(Q:Int×Xs->Prop)(w:World)(e:Ending)(w':World):Prop:=∃res,Q res/\FrX res.2 res.1 w e w'
theorem Qy.base{e:Ending}(h:Qy z3 k e z1)(c:aa [] f k):Qy z3 f e z1:=by
 obtain⟨a,g,d,i,j,l,m⟩:=h;exact⟨a,g,d,i,j,fun b e=>XF c.size (l b e),c.trans m⟩
theorem E2(h:z3 (z0,[]))(a:aa [] f k):Qy z3 f (returned (tuple #[slice none 0 0,int i64 z0])) k:=⟨(z0,[]),h,none,rfl,⟨⟨fun _=>rfl,fun _=>rfl⟩,fun b e=>by cases e⟩,(fun b e=>by cases e),a⟩
theorem KH(X:s.Zbv=b)(F:uD s)(f:Xr)(w:World)(h:dQ w d T b S)(u:iV b)(t:l<b.length) :
  Calls prog 70 #[pointer (some ⟨d,T,none⟩),int i64 l,string f] w fun e k=>Qy (BO (b[l].Zbe.drop 1) (nR b l) f) w e k:=by
 have J:=h.lt;have n:Xq _:=bu d T l b S w h t;have m:Xq (∀c,aa [] w c->Calls prog 102 #[du b[l] (S (10+2*l)) (S (11+2*l))] c fun e k=>∃i:Hd,e=returned (slice i.ao (b[l].Zbe.drop 1).length i.cap)/\dB k i (b[l].Zbe.drop 1)/\aa [] c k):=fun c q=>DB b[l] _ _ c ((h.Zbj q).viewN l t) (by have:=u.syms l t;omega);have E:Xq (∀c,aa [] w c->Calls prog 103 #[pointer (some ⟨d,T,none⟩),int i64 l] c fun e k=>OfS (b.map aZ) (nR b l) c e k):=fun c q=>Vm d T l b S c (h.Zbj q) u t;have H:Xq (∀r a L p (i:Hd) Q c,(b[l].Zbe.drop 1).length<=10->pY Q c r (b.map aZ) a (nR b l) L p->dB c i (b[l].Zbe.drop 1)->Calls prog 104 #[pointer (some ⟨r,0,none⟩),slice i.ao (b[l].Zbe.drop 1).length i.cap,string f] c fun e k=>zbO (b[l].Zbe.drop 1) (nR b l) f c e k):=fun r a L p i Q c Z g v =>
  Cy r i (b[l].Zbe.drop 1) a (nR b l) L (p 0) (p 1) 10000 f c (g.ct u t v Z) (fun P I=>E1 (d:=s) F P (by rw[X];exact I)) (fun P I=>(MU u P I).2) (by omega)
 unfold du at n m;have Y:(b[l].Zbe.drop 1).length<=10000:=by rw[Ym];have:=u.syms l t;omega
 generalize b[l].Zbe.drop 1=j at *;generalize b[l]=ac at *;clear h u;by_cases x:10<j.length
 ·have y:(j.length:Int) > 10:=by omega
  go_enter func70,ntmps70;go_wp2_with (first | (go_at_call 96;refine Xx n.o ?_;rintro V w2 ⟨rfl,o⟩) | (go_at_call 102;refine Xx (m.o _ o) ?_;rintro W B ⟨i,rfl,N,z⟩));go_ret2;exact E2 3 (by unfold BO;rw[XA x]) (o.trans z)
 ·have y:¬(j.length:Int) > 10:=by omega
  go_enter func70,ntmps70;go_upto_region 4 with (first | (go_at_call 96;refine Xx n.o ?_;rintro V w2 ⟨rfl,o⟩) | (go_at_call 102;refine Xx (m.o _ o) ?_;rintro W B ⟨i,rfl,N,z⟩))
  have O:d<B.heap.size:=XB J (o.trans z).size;have D:Xq _:=E.o B (o.trans z);go_upto_region 5 with (go_at_call 103;refine Xx D.o ?_;rintro e4 R ⟨r,a,L,p,rfl,A⟩)
  have G:Xq _:=(H.o r a L p i B R (by omega) A (N.Zbj A.kp));have C:Xq (aa [] w R):=(o.trans z).trans A.kp;clear A N;go_wp2_with (go_at_call 104;refine Xx G.o ?_;rintro e5 w5 ⟨M,K,U,rfl,x5,n5,k5⟩);go_ret2;exact Qy.base ⟨M,by unfold BO;rw[Xz x];exact K,U,rfl,x5,n5,k5⟩ C.o
set_option maxRecDepth 512
theorem Jd(b a:Xr)(w:World)(h:lD w T L) :
  Calls prog 45 #[pointer (some ⟨T,0,none⟩),string b,string a] w fun e d=>Qy (fun c=>c=(7,[])) w e d:=by
 have f:Xq (Calls prog 58 #[pointer (some ⟨T,0,none⟩),string b] w fun e d=>e=returned (tuple #[int i64 0,int i64 7])/\aa [] w d):=by
  show Calls _ _ _ _ _;obtain⟨j,-⟩:=j6.cells h;have g:=bO.lt h;clear h;go_enter func58,ntmps58;go_wp2;go_ret2;exact⟨rfl,aa.refl _ _⟩
 clear h;go_enter func45,ntmps45;go_wp2_with (go_at_call 58;refine Xx f.o ?_;rintro e k ⟨rfl,i⟩);go_ret2;exact E2 7 rfl i
theorem LH(B:s.Zbv=b)(F:uD s)(c a:Xr)(w:World)(h:sG w T L b S H)(y:iV b) :
  Calls prog 45 #[pointer (some ⟨T,0,none⟩),string c,string a] w fun e l=>Qy (qr b c a) w e l:=by
 have v:=y.len;have j:=Qb T L b S H c w h (by omega);have t:=h.anyR.lt;cases k:lH b c with
 | none =>
  rw[k]at j;have g:Xq _:=j;have z:Xq (qr b c a (8,[])):=by show qr b c a (8,[]);unfold qr;rw[k]
  clear j h;go_enter func45,ntmps45;go_wp2_with (go_at_call 58;refine Xx g.o ?_;rintro e d ⟨rfl,f⟩);go_ret2;exact E2 8 z.o f
 | some n =>
  rw[k]at j;obtain⟨x,J,-⟩:=Gr k;have g:Xq _:=j;have q:Xq (∀d,aa [] w d->Calls prog 70 #[pointer (some ⟨T,10,none⟩),int i64 n,string a] d fun e l=>Qy (qr b c a) d e l):=fun d f=>by
   refine(KH T 10 n b S s B F a d (h.Zbj f).recd y x).mono ?_;rintro e l ⟨i,u,D⟩;refine⟨i,?_,D⟩;unfold qr;rw[k];show BO _ _ _ _;rw[gW x];exact u
  have r:Xq (∀d,aa [] w d->T<d.heap.size):=fun d f=>XB t f.size;clear j h;go_enter func45,ntmps45;go_upto_region 4 with (go_at_call 58;refine Xx g.o ?_;rintro e d ⟨rfl,f⟩)
  have C:=r.o d f;have p:Xq _:=q.o d f;have m:Xq _:=f;clear f;go_wp2_with (go_at_call 70;refine Xx p.o ?_;rintro e K ⟨i,u,A,rfl,E,G,I⟩);go_ret2;exact Qy.base ⟨i,u,A,rfl,E,G,I⟩ m.o
theorem OV(c:Option Nat)(b a:Xr)(w:World)(n:eM w T L l H c)(d:∀j,j<L.length->(ak L j).size<=1024)(m:∀k,c=some k->uD (cK L k).2.2) :
  Calls prog 45 #[pointer (some ⟨T,0,none⟩),string b,string a] w fun e o=>Qy (yQ L c b a) w e o:=by
 have f:=n.s;cases c with
 | none=>exact Jd T L b a w f
 | some k =>
  obtain⟨-,i,g,r,-⟩:=f;exact LH T L _ i g _ rfl (m k rfl) b a w r (Iv L d k).ok
theorem vE(j:Hd)(L:Xs)(x:Xr)(w:World)(v:dB w j L)(I:L.length<=1073741824) :
  Calls prog 108 #[slice j.ao L.length j.cap,string x] w fun e C=>e=returned (int i64 (iu (bZ L x)))/\C=w:=by
 obtain⟨r,c⟩:=aP (j.ao);rw[c.o];go_enter func108,ntmps108;go_wp2
 go_loopg [5] L.length (fun g i wr=>∃k:Nat,k<=L.length/\g=L.length-k/\i=int i64 k/\Xq (∀i,i<k->((L.getD i ⟨#[]⟩).toList==x.toList)=false)/\wr=w)
 ·exact⟨0,by omega,by omega,rfl,fun i q=>by omega,rfl⟩
 obtain⟨k,H,G,rfl,a,rfl⟩:=hrel;by_cases b:k<L.length
 ·rcases v with A | ⟨g,d,u,t,z,m,n,E,F⟩
  ·rw[A]at b;simp at b
  ·have D:wr.cell? ⟨g,d+k,none⟩=some (string L[k]):=(by rw[ab m];exact n k L[k] (Xv b));obtain rfl:r=some ⟨g,d,none⟩:=c.o.symm.trans z;have f:Xq _:=fO L k b;have B:=ah m;generalize L[k]=y at *;clear m n;cases p:(y.toList==x.toList)
   ·have s:Xq (∀i,i<k+1->((L.getD i ⟨#[]⟩).toList==x.toList)=false):=by
     intro i q;by_cases e:i=k
     ·subst e;rw[f.o];exact p
     ·exact a.o i (by omega)
    clear f;go_wp2;go_roundg (L.length-(k+1))
    ·exact⟨k+1,by omega,rfl,by go_num,s,rfl⟩
    omega
   ·have l:Xq (bZ L x=some k):=jP b (by rw[f.o];exact p) a.o;clear f;go_wp2;go_ret;exact⟨au (by rw[l.o];rfl),rfl⟩
 ·have l:Xq (bZ L x=none):=jz (fun i q=>a.o i (by omega));go_wp2;go_ret;exact⟨au (by rw[l.o];rfl),rfl⟩
theorem IB(d:H<=1000000):Calls prog 201 #[int i64 H] y fun e c=>e=returned (int i64 (cp H))/\c=y:=by
 by_cases h:2<H
 ·have b:(H:Int) > 2:=by omega
  have a:Xq (cp H=2):=cm (by unfold cp;rw[XA h]);go_enter func201,ntmps201;go_wp2;go_ret;exact⟨au (by rw[a.o];rfl),rfl⟩
 ·have b:¬(H:Int) > 2:=by omega
  have a:Xq (cp H=H):=cm (by unfold cp;rw[Xz h]);go_enter func201,ntmps201;go_wp2;go_ret;exact⟨au (by rw[a.o]),rfl⟩
structure mJ where
 P:dZ
 hb:Hd
 hv:Hd
 ht:Hd
def pqV(m:mJ):List Value:=[string m.P.code,slice m.hb.ao m.P.body.length m.hb.cap,slice m.hv.ao m.P.vars.length m.hv.cap,slice m.ht.ao m.P.types.length m.ht.cap,string m.P.Zbz]
def Ik(m:mJ):Value:=agg #[string m.P.code,slice m.hb.ao m.P.body.length m.hb.cap,slice m.hv.ao m.P.vars.length m.hv.cap,slice m.ht.ao m.P.types.length m.ht.cap,string m.P.Zbz]
structure qw(w:World)(m:mJ):Prop where
 b:dB w m.hb m.P.body
 v:dB w m.hv m.P.vars
 t:dB w m.ht m.P.types
 len:m.P.types.length=m.P.vars.length
 bl:m.P.body.length<=100000
 vl:m.P.vars.length<=100000
theorem qw.Zbj{m:mJ}(h:qw f m)(a:aa [] f k):qw k m:=⟨h.b.Zbj a,h.v.Zbj a,h.t.Zbj a,h.len,h.bl,h.vl⟩
def rwC(rb:Nat->Nat)(S:Nat)(c:Nat):List Value:=[slice (some ⟨rb c,0,none⟩) (S*S) (S*S)]
structure ss(w:World)(gq:Nat)(Qs:List mJ)(hp hx hc hn:Hd)(tx codes:Xs)(rb:Nat->Nat)(G:Nat->Nat->Nat->Nat):Prop where
 Zbx:w.heap[gq]?=some (.cells #[slice hp.ao Qs.length hp.cap,slice hx.ao tx.length hx.cap,slice hc.ao codes.length hc.cap,slice hn.ao codes.length hn.cap] 183)
 prd:cW w hp.ao 5 pqV Qs
 each:∀m∈Qs,qw w m
 txt:dB w hx tx
 cod:dB w hc codes
 cnt:cW w hn.ao 1 (rwC rb (tx.length+1)) (List.range codes.length)
 row:∀c,c<codes.length->ce w (rb c) (iH (tx.length+1) (tx.length+1) (G c))
section
variable {w w':World} {gq:Nat} {Qs:List mJ} {hp hx hc hn:Hd} {tx codes:Xs} {rb:Nat->Nat} {G:Nat->Nat->Nat->Nat}
theorem ss.Zbj(h:ss w gq Qs hp hx hc hn tx codes rb G)(k:aa [] w w'):ss w' gq Qs hp hx hc hn tx codes rb G:=⟨k.get h.Zbx (by simp),h.prd.Zbj k,fun m a=>(h.each m a).Zbj k,h.txt.Zbj k,h.cod.Zbj k,h.cnt.Zbj k,fun c hc=>k.get (h.row c hc) (by simp)⟩
theorem ss.cells(h:ss w gq Qs hp hx hc hn tx codes rb G):w.cell? ⟨gq,0,none⟩=some (slice hp.ao Qs.length hp.cap)/\w.cell? ⟨gq,1,none⟩=some (slice hx.ao tx.length hx.cap)/\w.cell? ⟨gq,2,none⟩=some (slice hc.ao codes.length hc.cap)/\w.cell? ⟨gq,3,none⟩=some (slice hn.ao codes.length hn.cap)/\gq<w.heap.size:=by
 refine⟨?_,?_,?_,?_,ah h.Zbx⟩ <;> (rw[ab h.Zbx];rfl)
end
theorem UE{G:Nat->Nat->Nat->Nat}{c:Xr}(h:bZ o c=none)(i j:Nat):CG o G c i j=0:=by unfold CG;rw[h]
set_option maxRecDepth 100000
theorem vy(L:List mJ)(W Z B V:Hd)(d a:Xs)(J:Nat->Nat)(G:Nat->Nat->Nat->Nat)(m:Xr)(i j:Nat)(w:World)(h:ss w H L W Z B V d a J G)(ht:d.length<=100)(Q:a.length<=100000)(C:i<d.length+1)(D:j<d.length+1) :
  Calls prog 73 #[pointer (some ⟨H,0,none⟩),string m,int i64 i,int i64 j] w fun e w'=>e=returned (int i64 (CG a G m i j))/\aa [] w w':=by
 have f:Xq _:=(vE B a m w h.cod (by omega));obtain⟨-,c1,c2,M,T⟩:=h.cells;cases b:bZ a m with
 | none =>
  rw[b]at f;have s:Xq (CG a G m i j=0):=UE b i j;have u:((iu none:Int))=-1:=rfl;clear h;go_enter func73,ntmps73;go_wp2_with (go_at_call 108;refine Xx f.o ?_;rintro O w1 ⟨rfl,c⟩;rw[c];clear c);go_ret;exact⟨au (by rw[s.o];rfl),aa.refl _ _⟩
 | some k =>
  rw[b]at f;have E:k<a.length:=XI.1 (XS b);have s:Xq (CG a G m i j=G k i j):=uC b i j;have u:((iu (some k):Int))=(k:Int):=rfl;obtain⟨gn,A,R,p⟩:=h.cnt k k (by rw[Zp E]);have t:=p 0 _ rfl;rw[YM,ZN]at t;have l:=h.row k E;have g:=pO C D;have z:w.cell? ⟨J k,i*(d.length+1)+j,none⟩=some (int i64 (G k i j)):=by
   rw[ab l];simp[eR,Ar (G k) C D]
  have I:=ah l;rw[A]at M;have U:(k:Int)<a.length:=by omega
  rw[s.o];generalize G k i j=v at *;have r:i*(d.length+1)<=101*101:=YF (by omega) (by omega);have n:(d.length+1)*(d.length+1)<=101*101:=YF (by omega) (by omega);obtain⟨S,y⟩:=aP (d.length+1);have P:(d.length:Int)+1=(S:Int):=by rw[<-y.o];simp
  rw[y.o]at g t z r n;obtain⟨q,x⟩:∃q,i*S=q:=⟨_,rfl⟩
  have X:(i:Int)*(S:Int)=(q:Int):=by rw[<-x];simp
  rw[x]at g z r;obtain⟨N,K⟩:=aP (S*S);rw[K.o]at g t n;have Y:(q:Int)+(j:Int)<(N:Int):=by omega
  have F:0<=(q:Int)+(j:Int):=by omega
  clear h p l A s x;go_enter func73,ntmps73;go_upto_region 4 with (go_at_call 108;refine Xx f.o ?_;rintro O w1 ⟨rfl,c⟩;rw[c];clear c)
  go_quiet (fail);go_wp2;go_ret;exact⟨rfl,bH.drewN _⟩
end Go.Proofs.YtpdholcaobgofaaGreat

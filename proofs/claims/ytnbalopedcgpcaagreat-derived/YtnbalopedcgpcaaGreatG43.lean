import Derived.Test.YtnbalopedcgpcaaGreatG42
namespace Go.Proofs.YtnbalopedcgpcaaGreat
open Go.RowKit Tryz
open Value renaming int->Xx,string->Xy,slice->Xz,pointer->XA,agg->XB,bool->XC,tuple->XD
open Obj renaming cells->XE
open IntKind renaming i64->XF
open Ending renaming returned->XH
open World renaming cell?->XI
open Option renaming none->XJ,some->XK
open Bool renaming true->XL,false->XM
open Go.RowKit renaming Hid->XN
open Go renaming Calls->XO,World->XP,Value->XQ
set_option maxHeartbeats 0
variable{f y:XP}{b l S:Nat}{n:List XQ}{v:List ByteArray}(T:List St)(x:List Nat)(H:Nat)(w:XP)
def eN(w:XP)(a t n:Nat)(xs:List XQ):Prop:=∃cur:Array XQ,w.heap[a]?=XK (XE cur t)/\cur.size=n/\xs.length<=n/\∀(i:Nat) u,xs[i]?=XK u->cur[i]?=XK u
theorem eN.keptQ{Q:Nat->Prop}(h:eN f b l S n)(k:dA Q f y)(e:¬Q b):eN y b l S n:=by
 obtain⟨a,c,d⟩:=h;exact⟨a,k.get c e,d⟩
theorem eN.Ur(h:eN f b l S n)(k:aa [] f y):eN y b l S n:=by
 obtain⟨a,c,d⟩:=h;exact⟨a,k.get c (by simp),d⟩
theorem eN.lt(h:eN f b l S n):b<f.heap.size:=by
 obtain⟨a,c,-⟩:=h;exact ae c
theorem eN.put(h:eN f b l S n)(o:n.length<S):(∃u,XI f ⟨b,n.length,XJ⟩=XK u)/\f.frozen? ⟨b,n.length,XJ⟩=XM/\∀u,eN (f.setCell ⟨b,n.length,XJ⟩ u) b l S (n++[u]):=by
 obtain⟨c,d,j,m,k⟩:=h;refine⟨⟨c[n.length]'(by omega),by rw[ab d];exact Rn _⟩,aw d _,fun u=>⟨_,af d _ _,by simp[j],by simp;omega,fun i v a=>?_⟩⟩;rw[QB];by_cases e:i<n.length
 ·rw[PR e]at a;rw[PV (by omega)];exact k i v a
 ·have g:=(Qc.1 a).1;rw[Qa]at g;replace g:i<n.length+1:=g;rw[Qb (by omega),show i-n.length=0 by omega]at a;cases a
  rw[PZ (by omega),PZ (by omega)]
theorem eN.made{a:Array XQ}(c:f.heap[b]?=XK (XE a l))(d:a.size=S):eN f b l S []:=⟨a,c,d,Qx _,fun i u h=>by cases h⟩
theorem eN.view(h:eN f b 9 l (strs v))(k:v.length=l)(m:l<=100000):cE f ⟨XK ⟨b,0,XJ⟩,l⟩ v:=by
 obtain⟨a,c,g,i,d⟩:=h;refine P7 ⟨b,0,a,_,rfl,c,fun j x e=>?_,by show v.length<=l;omega,by show l<=_;omega⟩;rw[Sv];exact d j _ (by simp[strs,e])
theorem eN.srcN{a:List Nat}(h:eN f b 3 l (fV a)):pV f (XK ⟨b,0,XJ⟩) a:=by
 obtain⟨d,c,i,j,e⟩:=h;intro k x g;refine⟨b,rfl,ae c,?_⟩;rw[ab c];exact e k _ (by simp[fV,g])
theorem jJ.side{j:XP}{a:List ByteArray}{m:List cY}{L:List iX}{H:Nat->Hd}(h:jJ f y b v a m L H)(k:aa [l] y j)(s:f.heap.size<=l)(t:b≠l)(u:¬cD H l)(o:∀p∈L,p.ap≠l/\∀g,p.ag=XK ⟨g,0,XJ⟩->g≠l):jJ f j b v a m L H:=by
 have w:dA (fun q=>q=l) y j:=k.toP (fun q i _=>by simpa using i);refine⟨h.bag.kept k (by simpa using t) (fun q i e=>u (by simp at e;rw[<-e];exact i)),ka h.kp k s,h.lo,h.hi,h.len,fun n p P d r=>(h.each n p P d r).keptQ w (o p (Qp d)).1 (o p (Qp d)).2,fun p c=>⟨⟨(h.far p c).1.1,(h.far p c).1.2.1,PY (h.far p c).1.2.2 k.size⟩,fun g e=>⟨((h.far p c).2 g e).1,((h.far p c).2 g e).2.1,PY ((h.far p c).2 g e).2.2 k.size⟩⟩,h.dist,h.sub⟩
theorem eN.other{c:Nat}(h:eN f b l S n)(i:Nat)(u:XQ)(g:b≠c):eN (f.setCell ⟨c,i,XJ⟩ u) b l S n:=by
 obtain⟨a,d,e⟩:=h;exact⟨a,by rw[P9 _ _ _ _ g];exact d,e⟩
def M5(w0:XP)(gm:Nat)(tcs:List ByteArray)(Ps:List cY)(l:List St)(n:Nat)(H:Nat->Hd)(w:XP)(e:Ending)(w':XP):Prop:=if j8 l n=XL then N7 w0 gm tcs Ps (md l n) H w e w' else e=XH (XD #[])/\aa [] w w'
theorem ED(e:ByteArray)(k:Int)(a b:Option Addr)(n c m d:Nat):(Instr.build 163 #[(0,Xy e),(1,Xx XF k),(2,Xz a n c),(3,Xz b m d)]).run prog w=.ok (XB #[Xy e,Xx XF k,Xz a n c,Xz b m d]) w :=
 run_build w 163 _ _ (by kernel_rfl)
set_option maxRecDepth 100000
theorem wa(b o C:Nat)(l:List St)(R:Nat->Hd)(E S:List ByteArray)(Ps:List cY)(L:List iX)(H:Nat->Hd)(n:Nat)(ad:XP)(h:jJ w ad C E S Ps L H)(hR:cK w b o l R)(ok:dB l)(hn:n<l.length)(fx:∀s∈l,ax s∈E)(e5:∀(c2:List ByteArray),ug c2->(∀c∈c2,c∈E)->c2.length<=100000)(i4:L.length<=100000) :
  XO prog 80 #[XA (XK ⟨C,0,XJ⟩),XA (XK ⟨b,o,XJ⟩),Xx XF n] ad fun e K=>M5 w C E Ps l n H ad e K:=by
 have cv:XN _:=I6 b o n l R ad (hR.Ur h.kp) hn ok;have bq:XN (∀m (hm:m<l.length) d,aa [] w d->XO prog 51 #[XA (XK ⟨b,o,XJ⟩),Xx XF m] d fun e K=>e=XH (bW l[m] (R (10+2*m)) (R (11+2*m)))/\aa [] d K):=fun m hm d q=>aQ b o m l R d (hR.Ur q) hm;have c0:XN (∀m (hm:m<l.length) d,aa [] w d->XO prog 97 #[bW l[m] (R (10+2*m)) (R (11+2*m))] d fun e K=>e=XH (Xy (ak l[m]))/\aa [] d K):=fun m hm d q=>fn l[m] _ _ d ((hR.Ur q).viewN m hm) (by have:=ok.syms m hm;omega);have bs:XN (∀m (hm:m<l.length) d,aa [] w d->XO prog 99 #[bW l[m] (R (10+2*m)) (R (11+2*m))] d fun e K=>e=XH (Xy (ax l[m]))/\aa [] d K):=fun m hm d q=>kR l[m] _ _ d ((hR.Ur q).viewN m hm) (by have:=ok.syms m hm;omega);have ek:XN (∀m (hm:m<l.length) d,aa [] w d->XO prog 52 #[bW l[m] (R (10+2*m)) (R (11+2*m))] d fun e K=>∃hr:Hd,e=XH (Xz hr.ao (l[m].Um.drop 1).length hr.cap)/\cE K hr (l[m].Um.drop 1)/\aa [] d K):=fun m hm d q=>vP l[m] _ _ d ((hR.Ur q).viewN m hm) (by have:=ok.syms m hm;omega);have eb:XN _:=kD l n;have hO:=ia l n;have HB:XN _:=h;have es:XN (∀m (hm:m<l.length),ax l[m]∈E):=fun m hm=>fx _ (PT hm);have ds:XN _:=e5;have cw:XN _:=bq.out n hn;have bp:XN _:=ek.out n hn;have cz:XN _:=bs.out n hn;have j5:=ok.syms n hn;have hu:XN _:=hR;have hB:XN (∀s∈l,s.Um.length<=100000):=fun s hs=>by
  obtain⟨i,hi,rfl⟩:=QN hs;have:=ok.syms i hi;omega
 have j4:=ok.len;have a4:XN (j8 l n=((bN l n).isEmpty&&(al l n).all (kg l (l[n].Um.drop 1)))):=by
  show _=_;unfold j8 kg;rw[dO hn]
 have ht:XN (md l n=⟨l[n].label,ax l[n],l[n].Um.drop 1,(al l n).map (fun h=>ak (bL l h)),(al l n).map (fun h=>ax (bL l h))⟩):=by
  show _=_;unfold md;rw[dO hn]
 have hF:XN _:=es.out n hn;have b6:XN ((l[n].Um.drop 1).length<=10000):=by show _<=_;rw[Rk];omega
 have cl:XN (j8 l n=XM->∀d,aa [] ad d->M5 w C E Ps l n H ad (XH (XD #[])) d):=fun e d q=>by unfold M5;rw[PV (by rw[e];simp)];exact⟨rfl,q⟩
 have bg:XN (j8 l n=XL->∀e d,N7 w C E Ps (md l n) H ad e d->M5 w C E Ps l n H ad e d):=fun z e d q=>by unfold M5;rw[PZ z];exact q
 unfold bW at cw bp cz c0 bs bq;generalize l[n].Um.drop 1=f at *;generalize l[n]=s at *;generalize R (10+2*n)=sa at *;generalize R (11+2*n)=sp at *;generalize j8 l n=ir at *;generalize md l n=PP at *;generalize hhy:al l n=G at *;generalize hpp:bN l n=dd at *;have i5:=h.bag.lt;have hg:XN _:=(fun k (q:cD H k)=>h.bag.inlt q);obtain⟨A,ah⟩:∃A,XN (G.length=A):=⟨_,rfl⟩
 obtain⟨np,cu⟩:∃np,XN (dd.length=np):=⟨_,rfl⟩
 rw[ah.out,cu.out]at cv;rw[ah.out]at hO;clear h hR ok fx e5 ek;go_enter func80,ntmps80;go_upto_region 1 with (go_at_call 100;refine PU cv.out ?_;rintro e1 w1 ⟨hh,T,rfl,oh,op,eL,k1⟩)
 obtain⟨W1,bv⟩:∃W,XN (w1.alloc (XE #[Xz hh.ao A hh.cap,Xz T.ao np T.cap] 166)=W):=⟨_,rfl⟩
 have B1:W1.heap[w1.heap.size]?=XK (XE #[Xz hh.ao A hh.cap,Xz T.ao np T.cap] 166):=by rw[<-bv.out];exact PM _ _
 have c9:aa [] w1 W1:=by rw[<-bv.out];exact(aa.refl [] _).alloc _
 have b4:aa [] ad W1:=k1.trans c9;obtain⟨fb,cs⟩:∃fb,XN (w1.heap.size=fb):=⟨_,rfl⟩
 have fc:ad.heap.size<=fb:=by rw[<-cs.out];exact k1.size
 rw[cs.out]at B1;rw[bv.out,cs.out];have em:XN _:=cw.out W1 (HB.out.kp.trans b4);go_upto_region 2 with (go_at_call 51;refine PU em.out ?_;rintro e2 w2 ⟨rfl,k2⟩)
 obtain⟨M,bw⟩:∃W,XN (w2.alloc (XE #[Xx XF s.kind,Xy s.label,Xz sa.ao s.Um.length sa.cap,Xz sp.ao s.Ux.length sp.cap,Xy s.fin.file,Xx XF s.fin.line,Xx XF s.fin.col,Xx XF s.til] 110)=W):=⟨_,rfl⟩
 have B2:M.heap[w2.heap.size]?=XK (XE #[Xx XF s.kind,Xy s.label,Xz sa.ao s.Um.length sa.cap,Xz sp.ao s.Ux.length sp.cap,Xy s.fin.file,Xx XF s.fin.line,Xx XF s.fin.col,Xx XF s.til] 110):=by rw[<-bw.out];exact PM _ _
 have b2:aa [] w2 M:=by rw[<-bw.out];exact(aa.refl [] _).alloc _
 have dc:aa [] ad M:=(b4.trans k2).trans b2;obtain⟨J,cx⟩:∃J,XN (w2.heap.size=J):=⟨_,rfl⟩
 have fv:ad.heap.size<=J:=by rw[<-cx.out];exact(b4.trans k2).size
 rw[cx.out]at B2;rw[bw.out,cx.out];have BF:M.heap[fb]?=XK (XE #[Xz hh.ao A hh.cap,Xz T.ao np T.cap] 166):=(k2.trans b2).get B1 (by simp);have a6:XN (∀d H',aj C M H d H'->∀q,ad.heap.size<=q->q<M.heap.size->d.heap[q]?=M.heap[q]?/\¬cD H' q/\q≠C):=fun d H' t q h1 h2=>by
  have hn:¬cD H q:=fun z=>by have:=hg.out q z;omega
  exact⟨t.1.block q h2 (fun z=>z.elim (fun e=>by omega) hn),t.fresh q h2 hn,by omega⟩
 have bk:XN (∀d H',aj C M H d H'->(XI d ⟨fb,0,XJ⟩=XK (Xz hh.ao A hh.cap)/\XI d ⟨fb,1,XJ⟩=XK (Xz T.ao np T.cap))/\fb<d.heap.size):=fun d H' t=>by
  have B:d.heap[fb]?=XK (XE #[Xz hh.ao A hh.cap,Xz T.ao np T.cap] 166):=((a6.out d H' t fb fc (ae BF)).1).trans BF;exact⟨⟨by rw[ab B];rfl,by rw[ab B];rfl⟩,ae B⟩
 have az:XN (∀d H',aj C M H d H'->((XI d ⟨J,0,XJ⟩=XK (Xx XF s.kind)/\XI d ⟨J,1,XJ⟩=XK (Xy s.label)/\XI d ⟨J,2,XJ⟩=XK (Xz sa.ao s.Um.length sa.cap)/\XI d ⟨J,3,XJ⟩=XK (Xz sp.ao s.Ux.length sp.cap))/\(XI d ⟨J,4,XJ⟩=XK (Xy s.fin.file)/\XI d ⟨J,5,XJ⟩=XK (Xx XF s.fin.line)/\XI d ⟨J,6,XJ⟩=XK (Xx XF s.fin.col)/\XI d ⟨J,7,XJ⟩=XK (Xx XF s.til)))/\J<d.heap.size):=fun d H' t=>by
  have B:d.heap[J]?=XK (XE #[Xx XF s.kind,Xy s.label,Xz sa.ao s.Um.length sa.cap,Xz sp.ao s.Ux.length sp.cap,Xy s.fin.file,Xx XF s.fin.line,Xx XF s.fin.col,Xx XF s.til] 110):=((a6.out d H' t J fv (ae B2)).1).trans B2;refine⟨⟨⟨?_,?_,?_,?_⟩,⟨?_,?_,?_,?_⟩⟩,ae B⟩ <;> (rw[ab B];rfl)
 have ec:XN (∀d H',aj C M H d H'->pV d hh.ao G):=fun d H' t=>by
  intro k x hk;have gg:=(oh.Ur (c9.trans (k2.trans b2)));have hl:k<G.length:=(Qc.1 hk).1;rcases gg.UC with ⟨-,e0,-⟩ | ⟨g,i0,e1,e2,e3,-⟩
  ·have e0:G.length=0:=e0;omega
  ·have hN:hh.blk=XK g:=(by unfold Hd.blk;rw[e1];rfl);have hL:=eL g (P0 hN);have B:=(a6.out d H' t g hL (ae e2)).1;refine⟨g,e1,by rw[e2]at B;exact ae B,?_⟩;rw[Qy B];exact gg.cell e1 k _ (by simp[bQ,fV,hk])
 have a5:XN _:=dc;have gw:XN (jJ w M C E S Ps L H):=HB.out.Ur dc;have TR:=aj.refl C M H;obtain⟨⟨f0,f1⟩,jj⟩:=bk.out M H TR;obtain⟨⟨⟨s0,s1,s2,s3⟩,s4,s5,s6,s7⟩,kb⟩:=az.out M H TR;have he:XN (G.length<=hh.cap∨True):=P7 trivial;clear B1 B2 BF k1 c9 k2 b2 b4 oh op eL cv cw em bv bw he dc TR;by_cases cd:np=0
 ·have fs:dd=[]:=Ql (by rw[cu.out];exact cd);have gv:XN (ir=G.all (kg l f)):=by show _=_;rw[a4.out,fs];rfl
  have cf:decide ((np:Int) > 0)=XM:=RY (by omega);have d0:XN (∀(hr:Hd) d,aa [] M d->cE d hr f->XO prog 101 #[XA (XK ⟨b,o,XJ⟩),Xz hh.ao A hh.cap,Xz hr.ao f.length hr.cap] d fun e K=>e=XH (XC ir)/\aa [] d K):=fun hr d q v=>by
   rw[gv.out,<-ah.out];exact wB b o l R hh hr G f d (hu.out.Ur ((HB.out.kp.trans a5.out).trans q)) (ec.out d H (aj.Ur (aj.refl C M H) q)) v (by have:=b6.out;omega) (by rw[ah.out];omega) (fun x hx=>eb.out x hx) hB.out
  have el:XN _:=(fun d (q:aa [] M d)=>bp.out d ((HB.out.kp.trans a5.out).trans q));have dT:XN (∀d,aa [] M d->(XI d ⟨fb,0,XJ⟩=XK (Xz hh.ao A hh.cap)/\XI d ⟨fb,1,XJ⟩=XK (Xz T.ao np T.cap))/\(XI d ⟨J,0,XJ⟩=XK (Xx XF s.kind)/\XI d ⟨J,1,XJ⟩=XK (Xy s.label)/\XI d ⟨J,2,XJ⟩=XK (Xz sa.ao s.Um.length sa.cap)/\XI d ⟨J,3,XJ⟩=XK (Xz sp.ao s.Ux.length sp.cap))/\(XI d ⟨J,4,XJ⟩=XK (Xy s.fin.file)/\XI d ⟨J,5,XJ⟩=XK (Xx XF s.fin.line)/\XI d ⟨J,6,XJ⟩=XK (Xx XF s.fin.col)/\XI d ⟨J,7,XJ⟩=XK (Xx XF s.til))):=fun d q=>⟨(bk.out d H (aj.Ur (aj.refl C M H) q)).1,(az.out d H (aj.Ur (aj.refl C M H) q)).1⟩
  go_region_held3 (fun K=>(XI K ⟨fb,0,XJ⟩=XK (Xz hh.ao A hh.cap)/\XI K ⟨fb,1,XJ⟩=XK (Xz T.ao np T.cap))/\(XI K ⟨J,0,XJ⟩=XK (Xx XF s.kind)/\XI K ⟨J,1,XJ⟩=XK (Xy s.label)/\XI K ⟨J,2,XJ⟩=XK (Xz sa.ao s.Um.length sa.cap)/\XI K ⟨J,3,XJ⟩=XK (Xz sp.ao s.Ux.length sp.cap))/\(XI K ⟨J,4,XJ⟩=XK (Xy s.fin.file)/\XI K ⟨J,5,XJ⟩=XK (Xx XF s.fin.line)/\XI K ⟨J,6,XJ⟩=XK (Xx XF s.fin.col)/\XI K ⟨J,7,XJ⟩=XK (Xx XF s.til))) (go_keep) (first | (go_at_call 52;refine PU (el.out _ (by exact(aa.refl [] M).drew)) ?_;rintro e3 w3 ⟨hr,rfl,v3,k3⟩;obtain⟨⟨x0,x1⟩,⟨x2,x3,x4,x5⟩,x6,x7,x8,x9⟩:=dT.out w3 ((aa.refl [] M).drew.trans k3)) | (go_at_call 101;refine PU (d0.out hr w3 (by exact(aa.refl [] M).drew.trans k3) v3) ?_;rintro e4 y ⟨rfl,k4⟩;obtain⟨⟨u0,u1⟩,⟨u2,u3,u4,u5⟩,u6,u7,u8,u9⟩:=dT.out y (((aa.refl [] M).drew.trans k3).trans k4)));have ct:XN (aa [] M y):=((aa.refl [] M).drew.trans k3).trans k4;cases fl:ir
  ·have a3:XN _:=cl.out fl;clear a4 bg;go_wp2;go_end0;exact a3.out _ (a5.out.trans ct.out)
  ·have a3:XN _:=bg.out fl;have aq:XN (jJ w y C E S Ps L H):=gw.out.Ur ct.out;have er:XN (aj C M H y H):=aj.Ur (aj.refl C M H) ct.out;clear a4 cl bg d0 el x0 x1 x2 x3 x4 x5 x6 x7 x8 x9 f0 f1 s0 s1 s2 s3 s4 s5 s6 s7 k3 k4 v3;obtain⟨iS,hS,gd,ge,gf⟩:=Qq ey;obtain⟨iN,hP,f4,f5,f8⟩:=Qq IJ;have m1:=fun ad=>bR (P:=prog) ad 22 9 iS _ underlying22 hS gd A 1 ge (by rw[gf];omega) (by omega);have m2:=fun ad=>bR (P:=prog) ad 46 3 iN _ underlying46 hP f4 A 1 f5 (by rw[f8];omega) (by omega);obtain⟨U,ex⟩:∃mc,XN (madeCells (Xy ⟨#[]⟩).cells (A*1)=mc):=⟨_,rfl⟩
   obtain⟨Z,ew⟩:∃mc,XN (madeCells (Xx XF 0).cells (A*1)=mc):=⟨_,rfl⟩
   have gt:U.size=A:=(by rw[<-ex.out,QV];omega);have gp:Z.size=A:=(by rw[<-ew.out,QV];omega);rw[ex.out]at m1;rw[ew.out]at m2;obtain⟨⟨f0,f1⟩,h3⟩:=bk.out y H er.out;have c7:aa [] y ((y.alloc (XE U 9)).alloc (XE Z 3)):=((aa.refl [] _).alloc _).alloc _;have BV:((y.alloc (XE U 9)).alloc (XE Z 3)).heap[y.heap.size]?=XK (XE U 9):=((aa.refl [] _).alloc _).get (PM y _) (by simp);have BG:((y.alloc (XE U 9)).alloc (XE Z 3)).heap[y.heap.size+1]?=XK (XE Z 3):=by
    have:=PM (y.alloc (XE U 9)) (XE Z 3);rw[show(y.alloc (XE U 9)).heap.size=y.heap.size+1 by simp]at this;exact this
   have bd:∀q,cD H q->q<y.heap.size:=fun q z=>aq.out.bag.inlt z;have h5:=aq.out.bag.lt;have ha:XN (eN ((y.alloc (XE U 9)).alloc (XE Z 3)) y.heap.size 9 A (strs ((G.take 0).map (fun h=>ak (bL l h))))):=eN.made BV gt;have hb:XN (eN ((y.alloc (XE U 9)).alloc (XE Z 3)) (y.heap.size+1) 3 A (fV [])):=eN.made BG gp;have hd:XN (jJ w ((y.alloc (XE U 9)).alloc (XE Z 3)) C E S Ps L H):=aq.out.Ur c7;have hE:XN (aj C y H ((y.alloc (XE U 9)).alloc (XE Z 3)) H):=aj.Ur (aj.refl C y H) c7;have ai:XN ((¬cD H y.heap.size/\¬cD H (y.heap.size+1))/\y.heap.size≠C/\y.heap.size+1≠C):=⟨⟨fun z=>by have:=bd _ z;omega,fun z=>by have:=bd _ z;omega⟩,by omega,by omega⟩;have cW:XN (∀d H',aj C y H d H'->aj C M H d H'):=fun d H' t=>er.out.trans t;clear c7 BV BG gt gp bd;go_wp2
   go_loopg [10] A (fun gk iv wr=>∃(i:Nat) (c2:List ByteArray) (Y:Nat->Hd) (O:List Nat),i<=A/\gk=A-i/\iv=Xx XF i/\O.length=i/\XN (jJ w wr C E c2 Ps L Y/\aj C y H wr Y/\¬cD Y y.heap.size/\¬cD Y (y.heap.size+1))/\XN (eN wr y.heap.size 9 A (strs ((G.take i).map (fun h=>ak (bL l h)))))/\XN (eN wr (y.heap.size+1) 3 A (fV O))/\XN (∀j (hj:j<O.length) (h2:j<G.length),aZ c2 (ax (bL l G[j]))=XK O[j]))
   case atStart=>exact⟨0,S,H,[],by omega,rfl,rfl,rfl,⟨hd.out,hE.out,ai.out.1.1,ai.out.1.2⟩,ha,hb,fun j hj=>by exact absurd hj (SE _)⟩
   case round =>
    obtain⟨i,c2,Y,O,hi,j0,rfl,fk,I,bm,bl,ei⟩:=hrel;obtain⟨⟨f0,f1⟩,h4⟩:=bk.out wr Y (cW.out wr Y I.out.2.1);by_cases bf:i<A
    ·have j2:(i:Int)<(A:Int):=(by omega);have c6:i<G.length:=(by rw[ah.out];exact bf);obtain⟨gh,eh,j1,jv⟩:=(ec.out wr Y (cW.out wr Y I.out.2.1)) i G[i] (PJ c6);have a1:=eb.out G[i] (PT c6);rw[eh]at f0;clear eh;have bo:XN (∀p∈L,p.ap<y.heap.size/\∀g,p.ag=XK ⟨g,0,XJ⟩->g<y.heap.size):=fun p T=>⟨(aq.out.far p T).1.2.2,fun g e=>((aq.out.far p T).2 g e).2.2⟩
     have fm:=I.out.1.kp;have en:XN _:=bq.out G[i] a1 wr fm;have et:XN _:=c0.out G[i] a1;have g4:XN _:=bs.out G[i] a1;have hG:XN _:=es.out G[i] a1;have hJ:XN (strs ((G.take (i+1)).map (fun h=>ak (bL l h)))=strs ((G.take i).map (fun h=>ak (bL l h)))++[Xy (ak l[G[i]])]):=by
      show _=_;rw[QE c6,QA];simp[strs,dO a1]
     have b1:(strs ((G.take i).map (fun h=>ak (bL l h)))).length=i:=(by simp[strs];omega);have bx:(fV O).length=i:=(by simp[fV];exact fk);have hI:XN (∀(Q:List ByteArray) (k:Nat),Kx c2 Q->aZ Q (ax l[G[i]])=XK k->∀j (hj:j<(O++[k]).length) (h2:j<G.length),aZ Q (ax (bL l G[j]))=XK (O++[k])[j]):=fun Q k g1 g2 j hj h2=>by
      by_cases e:j<O.length
      ·rw[TJ e];exact g1 _ _ (ei.out j e h2)
      ·have hT:j=i:=(by rw[Qa]at hj;replace hj:j<O.length+1:=hj;omega);subst hT;rw[TE (by omega)];simp only[show j-O.length=0 by omega,List.getElem_cons_zero];rw[dO a1];exact g2
     generalize G[i]=m at *;generalize l[m]=t at *;generalize R (10+2*m)=ta at *;generalize R (11+2*m)=tp at *;generalize ak t=vv at *;generalize ax t=tt at *;(go_upto_region 9 with (go_at_call 51;refine PU en.out ?_;rintro e6 w6 ⟨rfl,k6⟩));obtain⟨W6,c5⟩:∃W,XN (w6.alloc (XE #[Xx XF t.kind,Xy t.label,Xz ta.ao t.Um.length ta.cap,Xz tp.ao t.Ux.length tp.cap,Xy t.fin.file,Xx XF t.fin.line,Xx XF t.fin.col,Xx XF t.til] 110)=W):=⟨_,rfl⟩
     have B6:W6.heap[w6.heap.size]?=XK (XE #[Xx XF t.kind,Xy t.label,Xz ta.ao t.Um.length ta.cap,Xz tp.ao t.Ux.length tp.cap,Xy t.fin.file,Xx XF t.fin.line,Xx XF t.fin.col,Xx XF t.til] 110):=(by rw[<-c5.out];exact PM _ _);have b3:aa [] wr W6:=(by rw[<-c5.out];exact k6.alloc _);obtain⟨tb,cF⟩:∃tb,XN (w6.heap.size=tb):=⟨_,rfl⟩
     have hM:y.heap.size+1<wr.heap.size:=bl.out.lt;have kc:y.heap.size+1<tb:=(by rw[<-cF.out];exact PY hM k6.size);rw[cF.out]at B6;rw[c5.out,cF.out];have b7:XN (∀d:XP,d.heap[tb]?=W6.heap[tb]?->((XI d ⟨tb,0,XJ⟩=XK (Xx XF t.kind)/\XI d ⟨tb,1,XJ⟩=XK (Xy t.label)/\XI d ⟨tb,2,XJ⟩=XK (Xz ta.ao t.Um.length ta.cap)/\XI d ⟨tb,3,XJ⟩=XK (Xz tp.ao t.Ux.length tp.cap))/\(XI d ⟨tb,4,XJ⟩=XK (Xy t.fin.file)/\XI d ⟨tb,5,XJ⟩=XK (Xx XF t.fin.line)/\XI d ⟨tb,6,XJ⟩=XK (Xx XF t.fin.col)/\XI d ⟨tb,7,XJ⟩=XK (Xx XF t.til)))/\tb<d.heap.size):=fun d q=>by
      have B:=q.trans B6;refine⟨⟨⟨?_,?_,?_,?_⟩,⟨?_,?_,?_,?_⟩⟩,ae B⟩ <;> (rw[ab B];rfl)
     obtain⟨⟨⟨r0,r1,r2,r3⟩,r4,r5,r6,r7⟩,r8⟩:=b7.out W6 rfl;have ev:XN _:=et.out W6 (fm.trans b3);have av:XN (∀d,aa [] wr d->(∃u,XI d ⟨y.heap.size,i,XJ⟩=XK u)/\d.frozen? ⟨y.heap.size,i,XJ⟩=XM/\y.heap.size<d.heap.size):=fun d q=>by
      have:=(bm.out.Ur q).put (by rw[b1];exact bf);rw[b1]at this;exact⟨this.1,this.2.1,(bm.out.Ur q).lt⟩
     have ef:XN (∀d,aa [] wr d->eN (d.setCell ⟨y.heap.size,i,XJ⟩ (Xy vv)) y.heap.size 9 A (strs ((G.take (i+1)).map (fun h=>ak (bL l h))))):=fun d q=>by
      have:=((bm.out.Ur q).put (by rw[b1];exact bf)).2.2 (Xy vv);rw[b1]at this;rw[hJ.out];exact this
     clear B6 en et;(go_upto_region 10 with (go_at_call 97;refine PU ev.out ?_;rintro e7 V ⟨rfl,k7⟩;obtain⟨⟨u0,g0⟩,hK,hX⟩:=av.out V (b3.trans k7)));obtain⟨W8,a0⟩:∃W,XN (V.setCell ⟨y.heap.size,i,XJ⟩ (Xy vv)=W):=⟨_,rfl⟩
     have be:aa [] wr V:=b3.trans k7;have fF:∀p∈L,p.ap≠y.heap.size/\∀g,p.ag=XK ⟨g,0,XJ⟩->g≠y.heap.size:=fun p T=>⟨by have:=(bo.out p T).1;omega,fun g e=>by have:=(bo.out p T).2 g e;omega⟩
     have ch:∀p∈L,p.ap≠y.heap.size+1/\∀g,p.ag=XK ⟨g,0,XJ⟩->g≠y.heap.size+1:=fun p T=>⟨by have:=(bo.out p T).1;omega,fun g e=>by have:=(bo.out p T).2 g e;omega⟩
     have hW:w.heap.size<=y.heap.size:=aq.out.kp.size;have K8:aa [y.heap.size] V W8:=(by rw[<-a0.out];exact(aa.refl _ _).setCell (P0 (by simp)) _);have ea:XN (jJ w W8 C E c2 Ps L Y):=(I.out.1.Ur be).side K8 hW (fun e=>ai.out.2.1 e.symm) I.out.2.2.1 fF;have hC:XN (aj C y H W8 Y):=by
      have t:=aj.Ur I.out.2.1 be;rw[<-a0.out];exact⟨t.1.setCell (P7 (PQ _)) _,t.2⟩
     have co:XN _:=ef.out V be;have d2:XN (eN W8 (y.heap.size+1) 3 A (fV O)):=by
      rw[<-a0.out];exact(bl.out.Ur be).other _ _ (by omega)
     have eM:W8.heap[tb]?=W6.heap[tb]?:=by
      rw[<-a0.out,P9 _ _ _ _ (show tb≠y.heap.size by omega)];exact k7.block tb r8 (by simp)
     rw[a0.out]at co ⊢;obtain⟨⟨⟨v0,v1,v2,v3⟩,v4,v5,v6,v7⟩,v8⟩:=b7.out W8 eM;have g5:XN _:=g4.out W8 ea.out.kp;have a7:=ds.out c2 I.out.1.dist I.out.1.sub;have cn:XN (∀d,aa [] W8 d->XO prog 98 #[XA (XK ⟨C,0,XJ⟩),Xy tt] d fun e K=>rW w C E c2 Ps L Y tt d e K):=fun d q=>p7 w C E c2 Ps L Y tt d (ea.out.Ur q) hG.out a7;have am:XN _:=I.out.2.2;have d5:XN (∀N D F,aa [] W8 N->aj C N Y D F->(eN D y.heap.size 9 A (strs ((G.take (i+1)).map (fun h=>ak (bL l h))))/\eN D (y.heap.size+1) 3 A (fV O))/\((∃u,XI D ⟨y.heap.size+1,i,XJ⟩=XK u)/\D.frozen? ⟨y.heap.size+1,i,XJ⟩=XM/\y.heap.size+1<D.heap.size)/\¬cD F y.heap.size/\¬cD F (y.heap.size+1)):=fun N D F q tq=>by
      have l1:=(eN.Ur co.out q).lt;have l2:=(eN.Ur d2.out q).lt;have g1:=(eN.Ur co.out q).keptQ tq.1 (fun z=>z.elim (fun e=>ai.out.2.1 e) am.out.1);have g2:=(eN.Ur d2.out q).keptQ tq.1 (fun z=>z.elim (fun e=>ai.out.2.2 e) am.out.2);have g3:=g2.put (by rw[bx];exact bf);rw[bx]at g3;exact⟨⟨g1,g2⟩,⟨g3.1,g3.2.1,g2.lt⟩,tq.fresh _ l1 am.out.1,tq.fresh _ l2 am.out.2⟩
     have g8:XN (∀N D Q F k,aa [] W8 N->aj C N Y D F->jJ w D C E Q Ps L F->Kx c2 Q->aZ Q tt=XK k->(jJ w (D.setCell ⟨y.heap.size+1,i,XJ⟩ (Xx XF ((k:Nat):Int))) C E Q Ps L F/\aj C y H (D.setCell ⟨y.heap.size+1,i,XJ⟩ (Xx XF ((k:Nat):Int))) F/\¬cD F y.heap.size/\¬cD F (y.heap.size+1))/\eN (D.setCell ⟨y.heap.size+1,i,XJ⟩ (Xx XF ((k:Nat):Int))) y.heap.size 9 A (strs ((G.take (i+1)).map (fun h=>ak (bL l h))))/\eN (D.setCell ⟨y.heap.size+1,i,XJ⟩ (Xx XF ((k:Nat):Int))) (y.heap.size+1) 3 A (fV (O++[k]))):=fun N D Q F k q tq gq gr pk=>by
      obtain⟨⟨g1,g2⟩,-,n1,n2⟩:=d5.out N D F q tq;have g3:=(g2.put (by rw[bx];exact bf)).2.2 (Xx XF ((k:Nat):Int));rw[bx]at g3;have gl:=(hC.out.Ur q).trans tq;refine⟨⟨gq.side ((aa.refl [y.heap.size+1] D).setCell (P0 (by simp)) _) (by omega) (fun e=>ai.out.2.2 e.symm) n2 ch,⟨gl.1.setCell (P7 (Sa _)) _,gl.2⟩,n1,n2⟩,g1.other _ _ (by omega),?_⟩;have e:fV (O++[k])=fV O++[Xx XF ((k:Nat):Int)]:=(by simp[fV]);rw[e];exact g3
     clear r0 r1 r2 r3 r4 r5 r6 r7 r8 u0 g0 hK hX b3 k7 K8 be eM a0 av ef ev fF ch;go_wp2_with (first | (go_at_call 99;refine PU g5.out ?_;rintro e9 N ⟨rfl,k9⟩) | (go_at_call 98;refine PU (cn.out _ k9) ?_;rintro i2 D ⟨Q,F,kk,rfl,b0,ff,cg,bc⟩;obtain⟨-,⟨⟨u9,g9⟩,i3,hY⟩,-⟩:=d5.out N D F k9 cg));go_roundg (A-(i+1))
     case measure=>omega
     case rel =>
      obtain⟨q1,q2,q3⟩:=g8.out N D Q F kk k9 cg ff bc b0;exact⟨i+1,Q,F,O++[kk],by omega,rfl,by go_num,by rw[Qa,fk];rfl,q1,q2,q3,hI.out Q kk bc b0⟩
    ·have j3:¬(i:Int)<(A:Int):=(by omega);have h8:i=A:=(by omega);have T0:=cW.out wr Y I.out.2.1;obtain⟨⟨⟨v0,v1,v2,v3⟩,v4,v5,v6,v7⟩,v8⟩:=az.out wr Y T0;have hU:=I.out.1.kp;have hH:XN _:=cz.out wr hU;have a7:=ds.out c2 I.out.1.dist I.out.1.sub;have cn:XN (∀d,aa [] wr d->XO prog 98 #[XA (XK ⟨C,0,XJ⟩),Xy (ax s)] d fun e K=>rW w C E c2 Ps L Y (ax s) d e K):=fun d q=>p7 w C E c2 Ps L Y (ax s) d (I.out.1.Ur q) hF.out a7;have eq:XN (∀w6 V F,aa [] wr w6->aj C w6 Y V F->aj C M H V F):=fun w6 V F q tq=>(aj.Ur T0 q).trans tq;obtain⟨vs,c4⟩:∃vs,XN (G.map (fun h=>ak (bL l h))=vs):=⟨_,rfl⟩
     have cj:vs.length=A:=(by rw[<-c4.out,Qh];exact ah.out);have d4:XN (eN wr y.heap.size 9 A (strs vs)):=by
      have:=bm.out;rw[Sf (by rw[ah.out];omega),c4.out]at this;exact this
     have ca:O.length=A:=(by omega);have am:XN _:=I.out.2.2;have ho:XN (∀(hr:Hd) d V F w6,aa [] wr w6->aj C w6 Y V F->aa [] V d->cE d hr f->XO prog 102 #[Xz hr.ao f.length hr.cap,Xz (XK ⟨y.heap.size,0,XJ⟩) A A] d fun e K=>∃a,e=XH (Xz (XK ⟨a,0,XJ⟩) f.length f.length)/\ot K (XK ⟨a,0,XJ⟩) 2 (Ob vs) f/\d.heap.size<=a/\a<K.heap.size/\aa [] d K):=fun hr d V F w6 q1 tq q2 v=>by
      have g1:=(eN.Ur d4.out q1).keptQ tq.1 (fun z=>z.elim (fun e=>ai.out.2.1 e) am.out.1);have:=zO hr ⟨XK ⟨y.heap.size,0,XJ⟩,A⟩ f vs d v ((eN.Ur g1 q2).view cj (by omega)) (by have:=b6.out;omega) (by omega);rw[cj]at this;exact this
     have hw:XN (∀d,aa [] w d->_):=bp.out;clear bp cz bs bq c0;(go_upto_region 12 with (first | (go_at_call 99;refine PU hH.out ?_;rintro e6 w6 ⟨rfl,k6⟩) | (go_at_call 98;refine PU (cn.out _ k6) ?_;rintro e7 V ⟨Q,F,k,rfl,b0,a8,a2,bc⟩)));obtain⟨⟨⟨y0,y1,y2,y3⟩,y4,y5,y6,y7⟩,y8⟩:=az.out V F (eq.out w6 V F k6 a2);have hz:XN _:=hw.out V a8.kp;have hq:XN _:=(fun(hr:Hd) d (q:aa [] V d) (v:cE d hr f)=>ho.out hr d V F w6 k6 a2 q v);clear v0 v1 v2 v3 v4 v5 v6 v7 v8;(go_upto_region 13 with (first | (go_at_call 52;refine PU hz.out ?_;rintro e8 w8 ⟨hV,rfl,go,k8⟩) | (go_at_call 102;refine PU (hq.out hV _ k8 go) ?_;rintro e9 N ⟨a,rfl,fu,hY,h0,k9⟩)));have ac:aa [] V N:=k8.trans k9;have a9:=a8.Ur ac;have kd:V.heap.size<=w8.heap.size:=k8.size;have hc:XN _:=a9;have T7:=eq.out w6 V F k6 a2;have c1:XI N ⟨J,1,XJ⟩=XK (Xy s.label):=((az.out N F (aj.Ur T7 ac)).1).1.2.1;have ip:=(az.out N F (aj.Ur T7 ac)).2;obtain⟨-,d1,h7⟩:=a9.cells;have i1:=a9.bag.free 1;have fi:¬cD F (y.heap.size+1):=a2.fresh _ (eN.Ur bl.out k6).lt am.out.2;have ep:XN (pV N (XK ⟨y.heap.size+1,0,XJ⟩) O/\y.heap.size+1<N.heap.size):=by
      have g2:=eN.Ur ((eN.Ur bl.out k6).keptQ a2.1 (fun z=>z.elim (fun e=>ai.out.2.2 e) am.out.2)) ac;exact⟨g2.srcN,g2.lt⟩
     obtain⟨p,HP⟩:∃p:iX,XN (p=⟨s.label,k,a,f.length,XK ⟨y.heap.size+1,0,XJ⟩,O⟩):=⟨_,rfl⟩
     have eg:XN (jK N Q p PP):=by
      rw[HP.out,ht.out];refine⟨rfl,b0,rfl,?_,?_,?_,ep.out.1,fun v hv=>?_⟩
      ·show ot N (XK ⟨a,0,XJ⟩) 2 (Ob (G.map (fun h=>ak (bL l h)))) f;rw[c4.out];exact fu
      ·show O.length=(G.map (fun h=>ax (bL l h))).length;rw[Qh,ah.out];exact ca
      ·show(G.map (fun h=>ak (bL l h))).length=(G.map (fun h=>ax (bL l h))).length
       rw[Qh,Qh]
      ·have hv:v<O.length:=hv;have f2:v<G.length:=(by rw[ah.out];omega);show aZ Q ((G.map (fun h=>ax (bL l h))).getD v ⟨#[]⟩)=XK O[v];rw[PK,Qt,PJ f2];exact bc _ _ (ei.out v hv f2)
     have d3:XN ((p.ap≠C/\¬cD F p.ap/\p.ap<N.heap.size)/\∀g,p.ag=XK ⟨g,0,XJ⟩->g≠C/\¬cD F g/\g<N.heap.size):=by
      rw[HP.out];have h6:=a8.bag.lt;refine⟨⟨by show a≠C;omega,fun z=>by have:=a8.bag.inlt z;have:a<V.heap.size:=this;omega,h0⟩,fun g e=>?_⟩;have e:XK (⟨y.heap.size+1,0,XJ⟩:Addr)=XK ⟨g,0,XJ⟩:=e;cases e
      exact⟨ai.out.2.2,fi,ep.out.2⟩
     have av:XN (MW p=[Xy s.label,Xx XF k,Xz (XK ⟨a,0,XJ⟩) f.length f.length,Xz (XK ⟨y.heap.size+1,0,XJ⟩) A A]):=(by rw[HP.out];show [_,_,_,Xz _ O.length O.length]=_;rw[ca]);obtain⟨iP,hQ,ga,gb,gc⟩:=Qq IK;have hD:XN _:=aB.Ur a9.bag ((aa.refl [] N).alloc (XE #[Xy s.label,Xx XF k,Xz (XK ⟨a,0,XJ⟩) f.length f.length,Xz (XK ⟨y.heap.size+1,0,XJ⟩) A A] 163)).drew;have s2:XN (∀j u,([Xy s.label,Xx XF k,Xz (XK ⟨a,0,XJ⟩) f.length f.length,Xz (XK ⟨y.heap.size+1,0,XJ⟩) A A]:List XQ)[j]?=XK u->(N.alloc (XE #[Xy s.label,Xx XF k,Xz (XK ⟨a,0,XJ⟩) f.length f.length,Xz (XK ⟨y.heap.size+1,0,XJ⟩) A A] 163)).drew.cell? ((⟨N.heap.size,0,XJ⟩:Addr).add j)=XK u):=by
      intro j u hj;have hk:(N.alloc (XE #[Xy s.label,Xx XF k,Xz (XK ⟨a,0,XJ⟩) f.length f.length,Xz (XK ⟨y.heap.size+1,0,XJ⟩) A A] 163)).drew.heap[N.heap.size]?=XK (XE #[Xy s.label,Xx XF k,Xz (XK ⟨a,0,XJ⟩) f.length f.length,Xz (XK ⟨y.heap.size+1,0,XJ⟩) A A] 163):=PM _ _;rw[ba,ab hk];simpa using hj
     have s3:XN (∀u∈([Xy s.label,Xx XF k,Xz (XK ⟨a,0,XJ⟩) f.length f.length,Xz (XK ⟨y.heap.size+1,0,XJ⟩) A A]:List XQ),u.oneCell'=XL):=(by rw[<-av.out];exact DW p);have s4:XN ((lp L).n+1<=maxLen):=(by show L.length+1<=_;unfold maxLen;omega);have s5:XN (((lp L).n+1)*72<=140737488355328):=(by show(L.length+1)*72<=_;omega);have b5:XN (∀wz H4,aB wz C 134 (E3 Q (L++[p]) H4) (E4 Q (L++[p])) H4->aj C (N.alloc (XE #[Xy s.label,Xx XF k,Xz (XK ⟨a,0,XJ⟩) f.length f.length,Xz (XK ⟨y.heap.size+1,0,XJ⟩) A A] 163)).drew F wz H4->N7 w C E Ps PP H ad (XH (XD #[])) wz):=fun wz H4 g1 g2=>by
      have g3:=g2.first ((aa.refl [] N).alloc (XE #[Xy s.label,Xx XF k,Xz (XK ⟨a,0,XJ⟩) f.length f.length,Xz (XK ⟨y.heap.size+1,0,XJ⟩) A A] 163)).drew;exact⟨rfl,Q,L++[p],H4,hc.out.push eg.out d3.out g3 g1,aj.first a5.out ((aj.Ur T7 ac).trans g3)⟩
     have c8:=fun X=>tI X p;rw[av.out]at c8;have hA:XN _:=c8;have ix:=fun ad=>ED ad s.label (k:Int) (XK ⟨a,0,XJ⟩) (XK ⟨y.heap.size+1,0,XJ⟩) f.length f.length A A;have dk:XN _:=(fun wz H4 g1 g2=>a3.out _ wz (b5.out wz H4 g1 g2));generalize s.label=lb at *;clear c8 eg d3 av HP a8 a2 bc k6 k8 k9 y0 y1 y2 y3 y4 y5 y6 y7 y8 a9 fu go T7 T0 b5 ac;go_region_law (refine aP rfl (.tmp 78) (.tmp 85) 132 rfl iP (XB #[Xy ⟨#[]⟩,Xx XF 0,Xz XJ 0 0,Xz XJ 0 0]) 72 (F 1) (lp L) underlying132 hQ ga gb gc rfl (by show 0<4;omega) (by simp[Act.eval] <;> rfl) (aB.own hD.out 1) ⟨N.heap.size,0,XJ⟩ 1 1 [Xy lb,Xx XF k,Xz (XK ⟨a,0,XJ⟩) f.length f.length,Xz (XK ⟨y.heap.size+1,0,XJ⟩) A A] (by simp[Act.eval]) rfl s2.out s3.out Qf s4.out s5.out ?_;intro g6 b8 D f3 cb b9;obtain⟨k6,f6,ee⟩:=aB.app hD.out (cs':=E3 Q (L++[p]) (cX F 1 ⟨XK ⟨g6,0,XJ⟩,b8⟩)) (rows':=E4 Q (L++[p])) 1 1 g6 b8 (L.length+1) _ f3 (hA.out L) cb (by simpa using b9) (yZ Q L _) _ rfl (by simp[E3,cX]);clear f3 cb b9)
     all_goals go_wp2
     all_goals go_end0
     all_goals exact dk.out _ _ ee.out.1 ee.out.2
 ·have hf:XN (ir=XM):=by
   show _=_;rw[a4.out];cases dd with
   | nil=>exact absurd (show([]:List Pr).length=np from cu.out) (fun e=>cd e.symm)
   | cons a r=>rfl
  have cf:(np:Int) > 0:=by omega
  have fr:0<np:=by omega
  have id:decide (0<np)=XL:=SV fr;have ih:decide ((np:Int) > 0)=XL:=SV cf;have a3:XN _:=cl.out hf.out;clear a4 bg;go_quiet (fail)
  all_goals go_wp2
  all_goals go_end0
  all_goals exact a3.out _ (a5.out.drewN _)
theorem Ek(c:List ByteArray):∀t:List ByteArray,ug c->(∀x∈c,x∈t)->c.length<=t.length:=by
 induction c with
 | nil=>intro t _ _;exact Qx _
 | cons x r p =>
  intro t g k;obtain⟨a,b,rfl⟩:=List.append_of_mem (k x (by simp));have o:ug r:=fun i j m d=>by
   have:=g (i+1) (j+1) (by omega) (by simpa using d);simpa using this
  have n:∀y∈r,y≠x:=fun y f e=>by
   obtain⟨j,d,rfl⟩:=QN f;have:=g 0 (j+1) (by omega) (by simpa using d);rw[show(x :: r).getD 0 ⟨#[]⟩=x from rfl,show(x :: r).getD (j+1) ⟨#[]⟩=r.getD j ⟨#[]⟩ from rfl,fT _ _ d,e]at this;simp at this
  have:=p (a++b) o (fun y f=>by
   have l:=k y (by simp[f]);rcases Qo.1 l with q | q
   ·exact RQ _ q
   ·rcases Q5.1 q with q | q
    ·exact absurd q (n y f)
    ·exact List.mem_append_right _ q)
  rw[Qa]at this ⊢;simp only[List.length_cons];omega
def DN(l:List St)(hy:List Nat)(i:Nat):List cY:=((hy.take i).filter (fun h=>(bL l h).kind==2)).map (fun h=>BN (bL l h))
def GS(l:List St)(n:Nat):List cY:=((List.range n).filter (fun n=>((bL l n).kind==4)&&j8 l n)).map (md l)
theorem Ly(a:H<x.length):DN T x (H+1)=DN T x H++(if((bL T x[H]).kind==2)=XL then [BN (bL T x[H])] else []):=by
 unfold DN;rw[QE a,QD,QA];congr 1;cases h:((bL T x[H]).kind==2) <;> simp[h]
theorem KN:GS T (H+1)=GS T H++(if(((bL T H).kind==4)&&j8 T H)=XL then [md T H] else []):=by
 unfold GS;rw[QM,QD,QA];congr 1;cases h:(((bL T H).kind==4)&&j8 T H) <;> simp[h]
theorem IS:(DN T x H).length<=x.length:=by
 unfold DN;rw[Qh];exact Qk (Q6 _ _) (by rw[QW];omega)
theorem Ng:(GS T H).length<=H:=by
 unfold GS;rw[Qh];exact Qk (Q6 _ _) (by rw[TG];omega)
theorem Hp:(Instr.build 134 #[]).run prog w=.ok (XB #[Xz XJ 0 0,Xz XJ 0 0]) w :=
 run_build w 134 _ _ (by kernel_rfl)
theorem Ik(k l c u:Int)(a f:ByteArray)(b d:Option Addr)(i e j g:Nat) :
  (Instr.field 110 (XB #[Xx XF k,Xy a,Xz b i e,Xz d j g,Xy f,Xx XF l,Xx XF c,Xx XF u]) 0).run prog w=.ok (Xx XF k) w:=by kernel_rfl
def Pc(tcs:List ByteArray)(Ps:List cY)(w:XP)(e:Ending)(w':XP):Prop:=∃gm codes L H,e=XH (XA (XK ⟨gm,0,XJ⟩))/\jJ w w' gm tcs codes Ps L H
theorem Ls(o a:Nat)(l:List St)(R:Nat->Hd)(w:XP)(hR:cK w H o l R)(ok:dB l)(ha:a<l.length) :
  XO prog 53 #[XA (XK ⟨H,o,XJ⟩),Xx XF a] w fun e C=>Pc (l.map ax) (dp l a) w e C:=by
 have bq:=ok.len;have b2:=ia l a;have bc:XN _:=kD l a;have a1:XN (∀b,aa [] w b->XO prog 77 #[XA (XK ⟨H,o,XJ⟩),Xx XF a] b fun e C=>∃T:Hd,e=XH (Xz T.ao (al l a).length T.cap)/\aE C T (bQ (al l a))/\(∀k,T.blk=XK k->b.heap.size<=k)/\aa [] b C):=fun b q=>h9 H o a l R b (hR.Ur q) ha ok;have Y:XN (∀m (S:m<l.length) b,aa [] w b->XO prog 51 #[XA (XK ⟨H,o,XJ⟩),Xx XF m] b fun e C=>e=XH (bW l[m] (R (10+2*m)) (R (11+2*m)))/\aa [] b C):=fun m S b q=>aQ H o m l R b (hR.Ur q) S;have a7:XN (∀b,aa [] w b->XO prog 79 #[XA (XK ⟨H,o,XJ⟩)] b fun e C=>e=XH (Xx XF l.length)/\C=b):=fun b q=>dr H o l R b (hR.Ur q);have N:XN (∀s∈l,ax s∈l.map ax):=fun s hs=>RZ hs;have M:XN (∀(y:List ByteArray),ug y->(∀c∈y,c∈l.map ax)->y.length<=100000):=fun y h1 h2=>by
  have:=Ek y _ h1 h2;rw[Qh]at this;omega
 have U:XN (∀m (S:m<l.length) r d O L K b,jJ w b r (l.map ax) d O L K->L.length<=100000->XO prog 78 #[XA (XK ⟨r,0,XJ⟩),bW l[m] (R (10+2*m)) (R (11+2*m))] b fun e C=>N7 w r (l.map ax) O (BN l[m]) K b e C):=fun m S r d O L K b g hl =>
  rm w r _ d O L K l[m] _ _ b g (hR.viewN m S) (by have:=ok.syms m S;omega) (N.out _ (PT S)) (M.out d g.dist g.sub) hl
 have ag:XN (∀m (_:m<l.length) r d O L K b,jJ w b r (l.map ax) d O L K->L.length<=100000->XO prog 80 #[XA (XK ⟨r,0,XJ⟩),XA (XK ⟨H,o,XJ⟩),Xx XF m] b fun e C=>M5 w r (l.map ax) O l m K b e C):=fun m S r d O L K b g hl =>
  wa w H o r l R _ d O L K m b g hR ok S N.out M.out hl
 have ap:XN (dp l a=DN l (al l a) (al l a).length++GS l a):=by
  show _=_;unfold dp DN GS;rw[QJ]
 have bv:=Hp;unfold bW at Y U;generalize al l a=f at *;obtain⟨A,a0⟩:∃t,XN (l.map ax=t):=⟨_,rfl⟩
 rw[a0.out]at N M U ag ⊢;rw[ap.out];clear hR ok N M ap;go_enter func53,ntmps53;go_upto_region 2 with fail
 obtain⟨W,HW⟩:∃W,XN (w.alloc (XE #[Xz XJ 0 0,Xz XJ 0 0] 134)=W):=⟨_,rfl⟩
 have kW:aa [] w W:=by rw[<-HW.out];exact(aa.refl [] _).alloc _
 have V:XN (jJ w W w.heap.size A [] [] [] (fun _=>⟨XJ,0⟩)):=by
  refine⟨⟨by rw[<-HW.out];exact PM _ _,fun i=>?_,fun _ _ _=>P0 rfl,fun _=>by simp[Hd.blk]⟩,kW,PQ _,fun k hk=>by obtain⟨i,hi⟩:=hk;simp[Hd.blk]at hi,rfl,(fun n p P h1=>by cases h1),(fun p hp=>by cases hp),(fun i j _ hj=>by cases hj),fun c hc=>by cases hc⟩
  match i with
  | 0=>exact Qj _ _ _ _
  | 1=>exact Qj _ _ _ _
  | i+2=>exact Qj _ _ _ _
 have bg:XN _:=a1.out W kW;have bp:w.heap.size<W.heap.size:=V.out.bag.lt;obtain⟨r,ai⟩:∃r,XN (w.heap.size=r):=⟨_,rfl⟩
 rw[ai.out]at V bp;rw[HW.out,ai.out];clear a1;go_upto_region 3 with (go_at_call 77;refine PU bg.out ?_;rintro e1 w1 ⟨T,rfl,oh,a3,k1⟩)
 have a8:XN (jJ w w1 r A [] [] [] (fun _=>⟨XJ,0⟩)):=V.out.Ur k1;have bd:XN (∀b H',aj r w1 (fun _=>⟨XJ,0⟩) b H'->pV b T.ao f):=fun b H' t=>by
  intro k x hk;have hl:k<f.length:=(Qc.1 hk).1;rcases oh.UC with ⟨-,e0,-⟩ | ⟨g,bw,e1,e2,e3,-⟩
  ·have e0:f.length=0:=e0;omega
  ·have bm:T.blk=XK g:=(by unfold Hd.blk;rw[e1];rfl);have bx:=a3 g bm;have B:=t.1.block g (ae e2) (fun z=>z.elim (fun e=>by omega) (fun z=>by obtain⟨i,hi⟩:=z;simp[Hd.blk]at hi));refine⟨g,e1,by rw[e2]at B;exact ae B,?_⟩;rw[Qy B];exact oh.cell e1 k _ (by simp[bQ,fV,hk])
 clear oh a3 k1;obtain⟨AO,ah⟩:∃AO,XN (T.ao=AO):=⟨_,rfl⟩
 rw[ah.out];go_wp2
 go_loopg [7] f.length (fun gk iv wr=>∃(i:Nat) (y:List ByteArray) (I:List iX) (E:Nat->Hd),i<=f.length/\gk=f.length-i/\iv=Xx XF i/\XN (jJ w wr r A y (DN l f i) I E/\aj r w1 (fun _=>⟨XJ,0⟩) wr E))
 case atStart=>exact⟨0,[],[],_,by omega,rfl,rfl,a8.out,aj.refl _ _ _⟩
 case round =>
  obtain⟨i,y,I,E,hi,bo,rfl,v⟩:=hrel;by_cases Q:i<f.length
  ·have b3:(i:Int)<f.length:=(by omega);obtain⟨gh,eh,b1,b0⟩:=(bd.out wr E v.out.2) i f[i] (PJ Q);have ac:=bc.out f[i] (PT Q);have bk:I.length<=100000:=(by have h1:=v.out.1.len;have h2:=IS l f i;omega);have aq:XN _:=Y.out f[i] ac wr v.out.1.kp;have be:XN _:=(fun b g=>U.out f[i] ac r y (DN l f i) I E b g bk);have u:XN _:=Ly l f i Q;rw[dO ac]at u;obtain rfl:AO=XK ⟨gh,0,XJ⟩:=ah.out.symm.trans eh;generalize f[i]=m at *;generalize l[m]=t at *;generalize R (10+2*m)=ta at *;generalize R (11+2*m)=tp at *;clear eh;(go_upto_region 7 with (go_at_call 51;refine PU aq.out ?_;rintro e6 w6 ⟨rfl,k6⟩));obtain⟨D,Z⟩:∃W,XN (w6.alloc (XE #[Xx XF t.kind,Xy t.label,Xz ta.ao t.Um.length ta.cap,Xz tp.ao t.Ux.length tp.cap,Xy t.fin.file,Xx XF t.fin.line,Xx XF t.fin.col,Xx XF t.til] 110)=W):=⟨_,rfl⟩
   have F:D.heap[w6.heap.size]?=XK (XE #[Xx XF t.kind,Xy t.label,Xz ta.ao t.Um.length ta.cap,Xz tp.ao t.Ux.length tp.cap,Xy t.fin.file,Xx XF t.fin.line,Xx XF t.fin.col,Xx XF t.til] 110):=(by rw[<-Z.out];exact PM _ _);have am:XN (aa [] wr D):=(by show aa [] wr D;rw[<-Z.out];exact k6.alloc _);obtain⟨J,az⟩:∃J,XN (w6.heap.size=J):=⟨_,rfl⟩
   rw[az.out]at F;rw[Z.out,az.out];have r0:XI D ⟨J,0,XJ⟩=XK (Xx XF t.kind):=by rw[ab F];rfl
   have r1:XI D ⟨J,1,XJ⟩=XK (Xy t.label):=(by rw[ab F];rfl);have r2:XI D ⟨J,2,XJ⟩=XK (Xz ta.ao t.Um.length ta.cap):=(by rw[ab F];rfl);have r3:XI D ⟨J,3,XJ⟩=XK (Xz tp.ao t.Ux.length tp.cap):=(by rw[ab F];rfl);have r4:XI D ⟨J,4,XJ⟩=XK (Xy t.fin.file):=(by rw[ab F];rfl);have r5:XI D ⟨J,5,XJ⟩=XK (Xx XF t.fin.line):=(by rw[ab F];rfl);have r6:XI D ⟨J,6,XJ⟩=XK (Xx XF t.fin.col):=(by rw[ab F];rfl);have r7:XI D ⟨J,7,XJ⟩=XK (Xx XF t.til):=(by rw[ab F];rfl);have r8:=ae F;have X:XN (jJ w D r A y (DN l f i) I E):=v.out.1.Ur am.out;have av:XN (aj r w1 (fun _=>⟨XJ,0⟩) D E):=aj.Ur v.out.2 am.out;clear F aq k6;cases a4:(t.kind==2)
   ·rw[a4,PV (by simp),QK]at u;rw[<-u.out]at X;go_wp2;go_roundg (f.length-(i+1))
    case measure=>omega
    case rel=>exact⟨i+1,y,I,E,by omega,rfl,by go_num,X.out,av.out⟩
   ·rw[a4,PZ rfl]at u;have bf:XN _:=be.out D X.out;go_wp2_with (go_at_call 78;refine PU bf.out ?_;rintro e7 w7 ⟨rfl,c3,L3,H3,q1,q2⟩);rw[<-u.out]at q1;go_roundg (f.length-(i+1))
    case measure=>omega
    case rel=>exact⟨i+1,c3,L3,H3,by omega,rfl,by go_num,q1,av.out.trans q2⟩
  ·have b4:¬(i:Int)<f.length:=(by omega);obtain rfl:i=f.length:=(by omega);have a9:XN _:=v.out.1;clear v;go_wp2
   go_loopg [9] a (fun gk nv wr=>∃(n:Nat) (y:List ByteArray) (I:List iX) (E:Nat->Hd),n<=a/\gk=a-n/\nv=Xx XF n/\XN (jJ w wr r A y (DN l f f.length++GS l n) I E))
   case atStart=>exact⟨0,y,I,E,by omega,rfl,rfl,by show jJ w wr r A y (DN l f f.length++GS l 0) I E;rw[show GS l 0=[] from rfl,QK];exact a9.out⟩
   case round =>
    obtain⟨n,c3,L3,H3,hn,bo,rfl,v⟩:=hrel;by_cases Q:n<a
    ·have b5:(n:Int)<(a:Int):=(by omega);have ad:n<l.length:=(by omega);have bs:(n:Int)<l.length:=(by omega);have HC:XN _:=a7.out wr v.out.kp;have HS:XN _:=Y.out n ad wr v.out.kp;have bl:L3.length<=100000:=by
      have h1:=v.out.len;have h2:=IS l f f.length;have h3:=Ng l n;rw[Qa]at h1;omega
     have HA:XN _:=(fun b g=>ag.out n ad r c3 (DN l f f.length++GS l n) L3 H3 b g bl);have u:XN _:=KN l n;rw[dO ad]at u;generalize l[n]=t at *;have fk:=fun w a2=>Ik w t.kind t.fin.line t.fin.col t.til t.label t.fin.file (R (10+2*n)).ao (R (11+2*n)).ao t.Um.length (R (10+2*n)).cap t.Ux.length a2;cases a5:(t.kind==4)
     ·rw[a5,Tw,PV (by simp),QK]at u;rw[<-u.out]at v;go_wp2_with (first | (go_at_call 79;refine PU HC.out ?_;rintro e2 w2 ⟨rfl,G⟩;rw[G];clear G) | (go_at_call 51;refine PU HS.out ?_;rintro e3 w3 ⟨rfl,k3⟩));go_roundg (a-(n+1))
      case measure=>omega
      case rel=>exact⟨n+1,c3,L3,H3,by omega,rfl,by go_num,v.out.Ur k3⟩
     ·rw[a5,Tc]at u;(go_upto_region 13 with (first | (go_at_call 79;refine PU HC.out ?_;rintro e2 w2 ⟨rfl,G⟩;rw[G];clear G) | (go_at_call 51;refine PU HS.out ?_;rintro e3 w3 ⟨rfl,k3⟩)));have a6:XN (XO prog 80 #[XA (XK ⟨r,0,XJ⟩),XA (XK ⟨H,o,XJ⟩),Xx XF n] w3 fun e C=>e=XH (XD #[])/\∃c4 L4 H4,jJ w C r A c4 (DN l f f.length++GS l (n+1)) L4 H4):=by
       refine(HA.out w3 (v.out.Ur k3)).mono ?_;intro e C hx;unfold M5 at hx;rw[u.out];by_cases hr:j8 l n=XL
       ·rw[PZ hr]at hx ⊢;obtain⟨he,c4,L4,H4,q1,-⟩:=hx;rw[<-QY];exact⟨he,c4,L4,H4,q1⟩
       ·rw[PV hr]at hx ⊢;rw[QK];exact⟨hx.1,c3,L3,H3,(v.out.Ur k3).Ur hx.2⟩
      clear u HA v;go_wp2_with (go_at_call 80;refine PU a6.out ?_;rintro e4 w4 ⟨rfl,c4,L4,H4,q1⟩);go_roundg (a-(n+1))
      case measure=>omega
      case rel=>exact⟨n+1,c4,L4,H4,by omega,rfl,by go_num,q1⟩
    ·have b6:¬(n:Int)<(a:Int):=(by omega);obtain rfl:n=a:=(by omega);go_wp2;go_ret;exact⟨r,c3,L3,H3,rfl,v.out⟩
end Go.Proofs.YtnbalopedcgpcaaGreat

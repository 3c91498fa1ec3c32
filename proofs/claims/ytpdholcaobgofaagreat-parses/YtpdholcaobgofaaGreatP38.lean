import Derived.Test.YtpdholcaobgofaaGreatP37
namespace Go.Proofs.YtpdholcaobgofaaGreat
open Go.RowKit Tryz
open Value IntKind Ending
set_option maxHeartbeats 0
variable{o z:World}{l a I:Nat}{z6:Xu}{B:List mJ}{A z8:Nat->Hd}{t:Hd}{u:Xs}{d:mJ}(N:Nat)(T:List mJ)(p r z4 q:Hd)(b:Xs)(z7:List mJ)(v:Xs)(z5:Nat->Nat)(L:Nat->Nat->Nat->Nat)(D:Xr)(x:Nat)(g:Xu)(y:Nat)
def za(tx:Xs)(C:pB)(P:dZ)(i j s f:Nat):Xu:=(List.range (j+1)).map (fun m=>if i<=m/\m<f then cp (wy (tx.length+1) (bX tx C P) (P.body.drop s) m j) else 0)
section
variable {tx:Xs} {C:pB} {P:dZ} {i j s f m:Nat}
theorem EQ:(za tx C P i j s f).length=j+1:=by simp[za]
theorem yD(a:m<j+1):(za tx C P i j s f)[m]?=some (if i<=m/\m<f then cp (wy (tx.length+1) (bX tx C P) (P.body.drop s) m j) else 0):=by simp[za,a]
theorem Su(b:f<j+1)(c:i<=f):(za tx C P i j s f).set f (cp (wy (tx.length+1) (bX tx C P) (P.body.drop s) f j))=za tx C P i j s (f+1):=by
 apply YR;intro t;rw[Yv,EQ];by_cases a:t<j+1
 ·rw[yD a,yD a];by_cases e:f=t
  ·subst e;rw[XA rfl,XA b,XA ⟨c,by omega⟩]
  ·rw[Xz e];by_cases q:i<=t/\t<f
   ·rw[XA q,XA ⟨q.1,by omega⟩]
   ·rw[Xz q,Xz (by omega)]
 ·rw[Yb (by rw[EQ];omega),Yb (by rw[EQ];omega),Xz (by omega)]
theorem MM(a:cp (wy (tx.length+1) (bX tx C P) (P.body.drop s) f j)=0):za tx C P i j s (f+1)=za tx C P i j s f:=by
 refine YU (fun t _=>?_);by_cases e:t=f
 ·subst e;rw[a];split <;> split <;> rfl
 ·by_cases q:i<=t/\t<f
  ·rw[XA q,XA ⟨q.1,by omega⟩]
  ·rw[Xz q,Xz (by omega)]
theorem VU:za tx C P i j s i=List.replicate (j+1) 0:=by
 unfold za;apply YR;intro t;by_cases a:t<j+1
 ·rw[Yi,Zp a];rw[Xv (by simpa using a)];simp only[Option.map_some,List.getElem_replicate];rw[Xz (by omega)]
 ·rw[Yb (by simp;omega),Yb (by simp;omega)]
theorem Ss(c:i<=j)(d:P.body.length<=s):(List.replicate (j+1) 0).set j 1=za tx C P i j s (j+1):=by
 apply YR;intro t;rw[Yv,List.length_replicate];have b:P.body.drop s=[]:=YQ d;by_cases a:t<j+1
 ·rw[yD a,b];have f:wy (tx.length+1) (bX tx C P) [] t j=if t=j then 1 else 0:=rfl;rw[f];by_cases e:j=t
  ·subst e;rw[XA rfl,XA (by omega),XA ⟨c,by omega⟩,XA rfl];rfl
  ·rw[Xz e,Xv (by simpa using a),List.getElem_replicate,show(if t=j then 1 else 0)=0 from Xz (fun q=>e q.symm)];split <;> rfl
 ·rw[Yb (by simp;omega),Yb (by rw[EQ];omega),Xz (by omega)]
def bsF(C:pB)(t:Xr)(u:Nat->Nat)(f d:Nat):Nat:=cp (sm (fun e=>C t f (f+e)*u (f+e)) d)
theorem UT(u:Nat->Nat)(d:Nat):bsF C D u f (d+1)=cp (bsF C D u f d+C D f (f+d)*u (f+d)):=zn _ _
end
theorem ce.at{k:Nat}(h:ce o l z6)(b:z6[k]?=some a):o.cell? ⟨l,k,none⟩=some (int i64 a):=by rw[ab h];simp[eR,b]
theorem ce.put(h:ce o l z6)(k v:Nat):ce (o.setCell ⟨l,k,none⟩ (int i64 v)) l (z6.set k v):=by
 show _=_;rw[ae h,Yh];simp[eR,List.map_set]
set_option maxRecDepth 100000
theorem xN(m:mJ)(k i j:Nat)(w:World)(h:ss w N T p r z4 q b v z5 L)(hm:qw w m)(ht:b.length<=100)(cv:v.length<=100000)(hk:k<=m.P.body.length)(cL:i<=j)(hj:j<b.length+1)(h2:∀c a Z,L c a Z<=2)(b5:l4 (CG v L)) :
  Calls prog 150 #[pointer (some ⟨N,0,none⟩),Ik m,int i64 k,int i64 i,int i64 j] w fun e w'=>e=returned (int i64 (cp (wy (b.length+1) (bX b (CG v L) m.P) (m.P.body.drop k) i j)))/\aa [] w w':=by
 obtain⟨W,HW⟩:=aP (w.alloc (.cells #[string m.P.code,slice m.hb.ao m.P.body.length m.hb.cap,slice m.hv.ao m.P.vars.length m.hv.cap,slice m.ht.ao m.P.types.length m.ht.cap,string m.P.Zbz] 185));have kW:=dx HW.o;have BP:=dC HW.o;have R:Xq (∀l,aa [] W l->(l.cell? ⟨w.heap.size,1,none⟩=some (slice m.hb.ao m.P.body.length m.hb.cap)/\l.cell? ⟨w.heap.size,2,none⟩=some (slice m.hv.ao m.P.vars.length m.hv.cap)/\l.cell? ⟨w.heap.size,3,none⟩=some (slice m.ht.ao m.P.types.length m.ht.cap)/\w.heap.size<l.heap.size)/\l.cell? ⟨N,1,none⟩=some (slice r.ao b.length r.cap)/\N<l.heap.size):=fun l A=>by
  have B:=A.get BP (by simp);have g:=(h.Zbj (kW.trans A)).cells;exact⟨⟨by rw[ab B];rfl,by rw[ab B];rfl,by rw[ab B];rfl,ah B⟩,g.2.1,g.2.2.2.2⟩
 have cj:Xq (∀x l,aa [] W l->Calls prog 108 #[slice m.hv.ao m.P.vars.length m.hv.cap,string x] l fun e w'=>e=returned (int i64 (iu (bZ m.P.vars x)))/\w'=l):=fun x l A=>vE m.hv m.P.vars x l ((hm.Zbj (kW.trans A)).v) (by have:=hm.vl;omega);have bd:Xq (∀cd a Z l,a<b.length+1->Z<b.length+1->aa [] W l->Calls prog 73 #[pointer (some ⟨N,0,none⟩),string cd,int i64 a,int i64 Z] l fun e w'=>e=returned (int i64 (CG v L cd a Z))/\aa [] l w'):=fun cd a Z l ha hb A=>vy N T p r z4 q b v z5 L cd a Z l (h.Zbj (kW.trans A)) ht cv ha hb;have b7:Xq (∀s (H:s<m.P.body.length),∃g D,m.hb.ao=some ⟨g,D,none⟩/\∀l,aa [] W l->g<l.heap.size/\l.cell? ⟨g,D+s,none⟩=some (string m.P.body[s])):=fun s H=>by
  rcases(hm.Zbj kW).b with h0 | ⟨g,D,bm,t,e1,e2,e3,e4,e5⟩
  ·rw[h0]at H;simp at H
  ·exact⟨g,D,e1,fun l A=>by have B:=A.get e2 (by simp);exact⟨ah B,by rw[ab B];exact e3 s _ (Xv H)⟩⟩
 have co:Xq (∀s (H:s<m.P.types.length),∃g D,m.ht.ao=some ⟨g,D,none⟩/\∀l,aa [] W l->g<l.heap.size/\l.cell? ⟨g,D+s,none⟩=some (string m.P.types[s])):=fun s H=>by
  rcases(hm.Zbj kW).t with h0 | ⟨g,D,bm,t,e1,e2,e3,e4,e5⟩
  ·rw[h0]at H;simp at H
  ·exact⟨g,D,e1,fun l A=>by have B:=A.get e2 (by simp);exact⟨ah B,by rw[ab B];exact e3 s _ (Xv H)⟩⟩
 have ct:Xq (∀s (H:s<b.length),∃g D,r.ao=some ⟨g,D,none⟩/\∀l,aa [] W l->g<l.heap.size/\l.cell? ⟨g,D+s,none⟩=some (string b[s])):=fun s H=>by
  rcases(h.Zbj kW).txt with h0 | ⟨g,D,bm,t,e1,e2,e3,e4,e5⟩
  ·rw[h0]at H;simp at H
  ·exact⟨g,D,e1,fun l A=>by have B:=A.get e2 (by simp);exact⟨ah B,by rw[ab B];exact e3 s _ (Xv H)⟩⟩
 have c7:=hm.bl;have d2:=hm.vl;have ck:Xq _:=hm.len;have a4:Xq (∀c a Z,CG v L c a Z<=2):=fun c a Z=>Jr h2 c a Z;have X:Xq _:=b5;have cg:Xq _:=kW;obtain⟨i0,cH,cX,c0,c2⟩:=XV ru;have m1:=fun w=>bY (P:=prog) w 25 3 i0 _ underlying25 cH cX (j+1) 1 c0 (by rw[c2];omega) (by omega);obtain⟨mc,bk⟩:=aP (madeCells (int i64 0).cells ((j+1)*1));have ap:Xq (mc=(eR (List.replicate (j+1) 0)).toArray):=cm (by rw[<-bk.o,qI]);rw[bk.o]at m1;obtain⟨⟨p1,p2,p3,bx⟩,c1,bv⟩:=R.o W (aa.refl _ _);obtain⟨pb,ba⟩:=aP (w.heap.size);rw[ba.o]at R p1 p2 p3 bx;obtain⟨C,HC⟩:=aP (CG v L);rw[HC.o]at bd a4 X ⊢;unfold Ik;obtain⟨J,HJ⟩:=aP (j+1);have c5:(j:Int)+1=(J:Int):=by rw[<-HJ.o];simp
 have hJ:J<=101:=by rw[<-HJ.o];omega
 have dp:(j:Int)<(J:Int):=by omega
 rw[HJ.o]at m1;have t0:(W.alloc (.cells mc 3)).cell? ⟨W.heap.size,j,none⟩=some (int i64 0):=by
  rw[ab (XD _ _),ap.o];simp[eR]
 have cc:Xq (ce (W.alloc (.cells (mc.setIfInBounds j (int i64 1)) 3)) W.heap.size (za b C m.P i j m.P.body.length (j+1))):=by
  show _=_;rw[XD,ap.o,<-Ss cL (Xy _),Yh];simp[eR,List.map_set]
 clear h hm BP kW b5;go_enter func150,ntmps150;go_upto_region 1 with fail
 rw[HW.o,ba.o];go_wp2
 go_loopg [11,12] (m.P.body.length-k) (fun gk av sv wr=>∃(n a:Nat),k<=n/\n<=m.P.body.length/\gk=n-k/\av=slice (some ⟨a,0,none⟩) J J/\sv=int i64 ((n:Int)-1)/\Xq (ce wr a (za b C m.P i j n (j+1)))/\Xq (aa [] W wr))
 ·exact⟨m.P.body.length,W.heap.size,hk,Xy _,rfl,rfl,by go_num,cc,(aa.refl [] W).alloc _⟩
 obtain⟨n,a,ds,dt,db,rfl,rfl,HI,HK⟩:=hrel;have c6:=ah HI.o;by_cases bw:n=k
 ·have cB:¬(n:Int)-1 ≥ (k:Int):=by omega
  have r0:=ce.at HI.o (k:=i) (yD (by omega));rw[XA ⟨Xy _,by omega⟩]at r0;obtain⟨Q,HV⟩:=aP (cp (wy (b.length+1) (bX b C m.P) (m.P.body.drop n) i j));rw[HV.o]at r0;have dl:(i:Int)<(J:Int):=by omega
  have ch:Xq _:=bw;clear bw;go_wp2;go_ret;exact⟨au (by rw[<-ch.o,HV.o]),cg.o.trans HK.o⟩
 ·obtain⟨s,rfl⟩:∃s,n=s+1:=⟨n-1,by omega⟩
  have H:s<m.P.body.length:=by omega
  have cS:((s+1:Nat):Int)-1=(s:Int):=by omega
  rw[cS];have cB:(s:Int) ≥ (k:Int):=by omega
  have dT:(s:Int)<(m.P.body.length:Int):=by omega
  obtain⟨⟨p1,p2,p3,bx⟩,c1,bv⟩:=R.o wr HK.o;obtain⟨gb,ob,eb,aS⟩:=b7.o s H;have a3:Xq (m.P.body.drop s=m.P.body[s] :: m.P.body.drop (s+1)):=X0 H;have ai:aa [] W (wr.alloc (.cells mc 3)):=HK.o.alloc _;obtain⟨cA,b0⟩:=aS _ ai;obtain⟨⟨q1,q2,q3,bT⟩,-,-⟩:=R.o _ ai;rw[eb]at q1;have ag:Xq _:=(fun n=>cj.o m.P.body[s] ((wr.alloc (.cells mc 3)).drewN n) (ai.drewN n));have BN:(wr.alloc (.cells mc 3)).heap[wr.heap.size]?=some (.cells mc 3):=XD _ _;have a6:Xq (∀nq,ce ((wr.alloc (.cells mc 3)).drewN nq) wr.heap.size (za b C m.P i j s i)):=fun nq=>by
   show _=_;rw[VU,<-ap.o];exact BN
  have b6:Xq (∀l,aa [] W l->gb<l.heap.size/\l.cell? ⟨gb,ob+s,none⟩=some (string m.P.body[s])):=aS;have b8:Xq _:=eb;have bo:∀nq,aa [] wr ((wr.alloc (.cells mc 3)).drewN nq):=fun nq=>(bH.alloc _).drewN nq;have a7:Xq _:=bo;generalize m.P.body[s]=y at *;clear eb aS ai BN bo;cases ad:bZ m.P.vars y with
  | none =>
   rw[ad]at ag;have cR:((iu none:Int))=-1:=rfl;have bc:Xq (∀f,wy (b.length+1) (bX b C m.P) (m.P.body.drop s) f j=if f<j/\((b.getD f ⟨#[]⟩).toList==y.toList)=true then wy (b.length+1) (bX b C m.P) (m.P.body.drop (s+1)) (f+1) j else 0):=fun f=>by
    rw[a3.o];exact zal X.o y _ f j hj ad
   obtain⟨nb,K⟩:=aP (wr.heap.size);have an:Xq (wr.heap.size<=nb):=Y5 K.o;(go_upto_region 7 with fail);go_quiet ((go_at_call 108;exact XW (ag.o _)));rename_i nq;obtain⟨c3,M⟩:=aP ((wr.alloc (.cells mc 3)).drewN nq);have S:Xq _:=a6.o nq;have V:Xq _:=a7.o nq;rw[M.o,K.o]at S;rw[M.o]at V;rw[M.o,K.o];go_wp2
   go_loopg [15] (j+1-i) (fun gf fv l=>∃f:Nat,i<=f/\f<=j+1/\gf=j+1-f/\fv=int i64 f/\Xq (ce l nb (za b C m.P i j s f))/\Xq (aa [] wr l))
   ·exact⟨i,Xy _,by omega,rfl,rfl,S,V⟩
   obtain⟨f,a0,br,cE,rfl,E,F⟩:=hrel;by_cases bq:f<=j
   ·have ac:(f:Int)<=(j:Int):=(by omega);rcases kn f j with ⟨aT,bs⟩ | ⟨aT,bs⟩
    ·obtain⟨gx,ox,ex,b4⟩:=ct.o f (by omega);have cb:Xq (b.getD f ⟨#[]⟩=b[f]'(by omega)):=fO b f (by omega);have G:=HK.o.trans F.o;obtain⟨dk,x0⟩:=b4 _ G;obtain⟨⟨q1,-,-,bT⟩,c1,bv⟩:=R.o _ G;obtain⟨cA,b0⟩:=b6.o _ G;rw[b8.o]at q1;rw[ex]at c1;have c9:(f:Int)<b.length:=(by omega);have ar:Xq _:=bc.o f;rw[cb.o]at ar;have O:ce _ a _:=F.o.get HI.o (by simp);have r1:=ce.at O (k:=f+1) (yD (by omega));rw[XA ⟨by omega,by omega⟩]at r1;have bp:=ah O;have cP:=ah E.o;have n0:=ce.at E.o (k:=f) (yD (by omega));have nf:=zcW E.o f;rw[Xz (by omega)]at n0;have c4:(f:Int)+1<(J:Int):=(by omega);have cy:(f:Int)<(J:Int):=(by omega);generalize b[f]=z at *;clear b4 G O ex;cases hb:(z.toList==y.toList)
     ·have I:Xq (za b C m.P i j s (f+1)=za b C m.P i j s f):=MM (by rw[ar.o,hb,Xz (by simp)];rfl);(go_upto_region 12 with fail);go_quiet (fail);go_wp2;go_roundg (j+1-(f+1))
      ·exact⟨f+1,by omega,by omega,rfl,by go_num,by rw[I.o];exact E,F.o.drewN _⟩
      omega
     ·obtain⟨u,HU⟩:∃u,Xq (cp (wy (b.length+1) (bX b C m.P) (m.P.body.drop (s+1)) (f+1) j)=u):=⟨_,rfl⟩
      have I:Xq ((za b C m.P i j s f).set f u=za b C m.P i j s (f+1)):=by
       have:=Su (tx:=b) (C:=C) (P:=m.P) (i:=i) (j:=j) (s:=s) (f:=f) (by omega) a0;rw[ar.o,XA ⟨aT,hb⟩,HU.o]at this;exact this
      rw[HU.o]at r1;(go_upto_region 12 with fail);go_quiet (fail);go_wp2;go_roundg (j+1-(f+1))
      ·refine⟨f+1,by omega,by omega,rfl,by go_num,?_,(F.o.drewN _).setCell (XK an.o) _⟩;rw[<-I.o];exact ce.put (show ce (World.drewN _ _) nb _ from E.o) f u
      omega
    ·have I:Xq (za b C m.P i j s (f+1)=za b C m.P i j s f):=MM (by rw[bc.o f,Xz (fun A=>aT A.1)];rfl);(go_upto_region 12 with fail);go_quiet (fail);go_wp2;go_roundg (j+1-(f+1))
     ·exact⟨f+1,by omega,by omega,rfl,by go_num,by rw[I.o];exact E,F.o.drewN _⟩
     omega
   ·have ac:¬(f:Int)<=(j:Int):=(by omega);obtain rfl:f=j+1:=(by omega);go_wp2;go_roundg (s-k)
    ·exact⟨s,nb,by omega,by omega,rfl,rfl,by go_num,E,HK.o.trans F.o⟩
    omega
  | some Q =>
   rw[ad]at ag;have cR:((iu (some Q):Int))=(Q:Int):=rfl;have cV:Q<m.P.vars.length:=XI.1 (XS ad);have b2:Q<m.P.types.length:=by rw[ck.o];exact cV
   obtain⟨gt,ot,et,b1⟩:=co.o Q b2;have cl:Xq (∀l,aa [] W l->gt<l.heap.size/\l.cell? ⟨gt,ot+Q,none⟩=some (string m.P.types[Q])):=b1;have ca:Xq _:=et;have a5:Xq (m.P.types.getD Q ⟨#[]⟩=m.P.types[Q]):=fO _ _ b2;have az:Xq (∀f,f<=j->cp (wy (b.length+1) (bX b C m.P) (m.P.body.drop s) f j)=bsF C (m.P.types.getD Q ⟨#[]⟩) (fun A=>cp (wy (b.length+1) (bX b C m.P) (m.P.body.drop (s+1)) A j)) f (j+1-f)):=fun f hf=>by
    rw[a3.o];exact zam X.o y _ f j Q hf hj ad
   rw[a5.o]at az;generalize m.P.types[Q]=a1 at *;obtain⟨U,ax⟩:=aP ((fun A=>cp (wy (b.length+1) (bX b C m.P) (m.P.body.drop (s+1)) A j)));have cs:Xq (∀A,U A<=2):=fun A=>by rw[<-ax.o];exact oY _
   rw[ax.o]at az;obtain⟨nb,K⟩:=aP (wr.heap.size);have an:Xq (wr.heap.size<=nb):=Y5 K.o;clear et b1 a5;(go_upto_region 7 with fail);go_quiet ((go_at_call 108;exact XW (ag.o _)));rename_i nq;obtain⟨c3,M⟩:=aP ((wr.alloc (.cells mc 3)).drewN nq);have S:Xq _:=a6.o nq;have V:Xq _:=a7.o nq;rw[M.o,K.o]at S;rw[M.o]at V;rw[M.o,K.o];go_wp2
   go_loopg [15] (j+1-i) (fun gf fv l=>∃f:Nat,i<=f/\f<=j+1/\gf=j+1-f/\fv=int i64 f/\Xq (ce l nb (za b C m.P i j s f))/\Xq (aa [] wr l))
   ·exact⟨i,Xy _,by omega,rfl,rfl,S,V⟩
   obtain⟨f,a0,br,cE,rfl,E,F⟩:=hrel;by_cases bq:f<=j
   ·have ac:(f:Int)<=(j:Int):=(by omega);have bf:Xq _:=az.o f bq;go_wp2
    go_loopg [16,17] (j+1-f) (fun gm nv mv l=>∃d x:Nat,f+d<=j+1/\gm=j+1-(f+d)/\x<=2/\nv=int i64 x/\mv=int i64 (f+d:Nat)/\Xq (x=bsF C a1 U f d)/\Xq (aa [] wr l))
    ·exact⟨0,0,by omega,rfl,by omega,rfl,rfl,rfl,aa.refl _ _⟩
    obtain⟨d,x,cz,cF,d3,rfl,rfl,bg,am⟩:=hrel;have af:Xq (ce _ nb (za b C m.P i j s f)):=am.o.get E.o (by simp);have al:Xq _:=F.o.trans am.o;obtain⟨A,HQ⟩:=aP (f+d);rw[HQ.o]at cz cF ⊢;have c8:f<=A:=(by rw[<-HQ.o];omega);by_cases dz:A<=j
    ·have bz:(A:Int)<=(j:Int):=(by omega);have G:=HK.o.trans al.o;obtain⟨⟨-,-,q3,bT⟩,-,-⟩:=R.o _ G;rw[ca.o]at q3;obtain⟨df,d6⟩:=cl.o _ G;have a2:Xq _:=(bd.o a1 f A _ (by omega) (by omega) G);have cu:=a4.o a1 f A;have aq:Xq (cp (x+C a1 f A*U A)=bsF C a1 U f (d+1)):=cm (by rw[UT,<-bg.o,HQ.o]);have cT:=cs.o A;have be:Xq (cp (wy (b.length+1) (bX b C m.P) (m.P.body.drop (s+1)) A j)=U A):=cm (by rw[<-ax.o]);generalize C a1 f A=c at *;generalize U A=u at *;have d1:(Q:Int)<(m.P.types.length:Int):=(by omega);have dv:(A:Int)<(J:Int):=(by omega);have cx:c*u<=2*2:=YF cu cT;obtain⟨z,hz⟩:∃z,c*u=z:=⟨_,rfl⟩
     have d5:(c:Int)*(u:Int)=(z:Int):=(by rw[<-hz];simp);rw[hz]at cx aq;obtain⟨tt,Y⟩:=aP (x+z);have d4:(x:Int)+(z:Int)=(tt:Int):=by have:=Y.o;omega
     have d0:tt<=6:=(by have:=Y.o;omega);rw[Y.o]at aq;have cq:Xq _:=(fun w=>IB tt w (by omega));clear hz;(go_upto_region 19 with (go_at_call 73;refine Xx a2.o ?_;rintro e4 w4 ⟨rfl,k4⟩));have O:ce w4 a _:=k4.get (al.o.get HI.o (by simp)) (by simp);have r1:=ce.at O (k:=A) (yD (by omega));rw[XA ⟨by omega,by omega⟩,be.o]at r1;have bp:=ah O;have cf:Xq _:=am.o.trans k4;clear O k4 G a2 be;go_wp2_with (go_at_call 201;refine Xx (cq.o _) ?_;rintro e5 w5 ⟨rfl,b3⟩;rw[b3];clear b3);go_roundg (j+1-(A+1))
     ·exact⟨d+1,cp tt,by have:=HQ.o;omega,by have:=HQ.o;omega,oY _,rfl,by have:=HQ.o;go_num,aq.o,cf⟩
     omega
    ·have bz:¬(A:Int)<=(j:Int):=(by omega);have bj:Xq (cp (wy (b.length+1) (bX b C m.P) (m.P.body.drop s) f j)=x):=by
      show _=_;rw[bf.o,bg.o,show j+1-f=d by have:=HQ.o;omega]
     have I:Xq ((za b C m.P i j s f).set f x=za b C m.P i j s (f+1)):=by
      have:=Su (tx:=b) (C:=C) (P:=m.P) (i:=i) (j:=j) (s:=s) (f:=f) (by omega) a0;rw[bj.o]at this;exact this
     have cP:=ah af.o;have n0:=ce.at af.o (k:=f) (yD (by omega));have nf:=zcW af.o f;rw[Xz (by omega)]at n0;have cy:(f:Int)<(J:Int):=(by omega);clear bj bf;go_wp2;go_roundg (j+1-(f+1))
     ·refine⟨f+1,by omega,by omega,rfl,by go_num,?_,al.o.setCell (XK an.o) _⟩;rw[<-I.o];exact ce.put af.o f x
     omega
   ·have ac:¬(f:Int)<=(j:Int):=(by omega);obtain rfl:f=j+1:=(by omega);go_wp2;go_roundg (s-k)
    ·exact⟨s,nb,by omega,by omega,rfl,rfl,by go_num,E,HK.o.trans F.o⟩
    omega
def cY(Qs:List mJ):List dZ:=Qs.map (fun m=>m.P)
def Fw(tx:Xs)(Ps:List dZ)(C:pB)(c:Xr)(i j n:Nat):Nat:=cp (ze (xc tx C c i j) (Ps.take n))
section
variable {tx:Xs} {Ps:List dZ} {C:pB} {c:Xr} {i j n:Nat}
theorem zbl:Fw tx Ps C c i j n<=2:=oY _
theorem Nf(a:n<Ps.length):Fw tx Ps C c i j (n+1)=cp (Fw tx Ps C c i j n+xc tx C c i j Ps[n]):=by
 unfold Fw;rw[Yc a,M8,zn];rfl
theorem Wx(a:n<Ps.length)(h:(Ps[n].code.toList==c.toList)=false):Fw tx Ps C c i j (n+1)=Fw tx Ps C c i j n:=by
 rw[Nf a,xc,Xz (by rw[h];simp),YM,pL zbl]
theorem zbk(a:n<Ps.length)(h:(Ps[n].code.toList==c.toList)=true):Fw tx Ps C c i j (n+1)=cp (Fw tx Ps C c i j n+cp (mI tx C Ps[n] i j)):=by
 rw[Nf a,xc,XA h,Eg]
theorem Ww:Fw tx Ps C c i j Ps.length=FC tx Ps C c i j:=by unfold Fw FC;rw[Yl]
end
theorem ub(h:l<B.length):(cY B)[l]'(by unfold cY;rw[XZ];exact h)=B[l].P:=by simp[cY]
theorem tu:(cY B).length=B.length:=by simp[cY]
theorem Tu(w:World)(h:ss w N T p r z4 q b v z5 L)(ht:b.length<=100)(W:v.length<=100000)(am:T.length<=100000)(X:x<=y)(hj:y<b.length+1)(h2:∀c a ad,L c a ad<=2)(G:l4 (CG v L)) :
  Calls prog 149 #[pointer (some ⟨N,0,none⟩),string D,int i64 x,int i64 y] w fun e Z=>e=returned (int i64 (FC b (cY T) (CG v L) D x y))/\aa [] w Z:=by
 have A:Xq (∀n (q:n<T.length) f,aa [] w f->Calls prog 150 #[pointer (some ⟨N,0,none⟩),Ik T[n],int i64 0,int i64 x,int i64 y] f fun e Z=>e=returned (int i64 (cp (mI b (CG v L) T[n].P x y)))/\aa [] f Z):=fun n d f i=>xN N T p r z4 q b v z5 L T[n] 0 x y f (h.Zbj i) ((h.each _ (XM d)).Zbj i) ht W (XX _) X hj h2 G;have u:Xq (∀f,aa [] w f->f.cell? ⟨N,0,none⟩=some (slice p.ao T.length p.cap)/\N<f.heap.size):=fun f i=>⟨(h.Zbj i).cells.1,(h.Zbj i).cells.2.2.2.2⟩
 have s:Xq (∀n (q:n<T.length),∃g,p.ao=some ⟨g,0,none⟩/\∀f,aa [] w f->g<f.heap.size/\f.cell? ⟨g,n*5,none⟩=some (string T[n].P.code)/\f.cell? ⟨g,n*5+1,none⟩=some (slice T[n].hb.ao T[n].P.body.length T[n].hb.cap)/\f.cell? ⟨g,n*5+2,none⟩=some (slice T[n].hv.ao T[n].P.vars.length T[n].hv.cap)/\f.cell? ⟨g,n*5+3,none⟩=some (slice T[n].ht.ao T[n].P.types.length T[n].ht.cap)/\f.cell? ⟨g,n*5+4,none⟩=some (string T[n].P.Zbz)):=fun n d=>by
  obtain⟨g,e1,-⟩:=h.prd n T[n] (Xv d);refine⟨g,e1,fun f i=>?_⟩;obtain⟨g2,H,l2,B⟩:=(h.Zbj i).prd n T[n] (Xv d);obtain rfl:g=g2:=by rw[e1]at H;injection H with H;injection H
  exact⟨l2,B 0 _ rfl,B 1 _ rfl,B 2 _ rfl,B 3 _ rfl,B 4 _ rfl⟩
 obtain⟨C,HC⟩:=aP (CG v L);rw[HC.o]at A ⊢;have O:Xq (Fw b (cY T) C D x y T.length=FC b (cY T) C D x y):=cm (by rw[<-tu];exact Ww);have Q:Xq (∀n (q:n<T.length),(T[n].P.code.toList==D.toList)=false->Fw b (cY T) C D x y (n+1)=Fw b (cY T) C D x y n):=fun n d i=>Wx (by rw[tu];exact d) (by rw[ub d];exact i);have I:Xq (∀n (q:n<T.length),(T[n].P.code.toList==D.toList)=true->Fw b (cY T) C D x y (n+1)=cp (Fw b (cY T) C D x y n+cp (mI b C T[n].P x y))):=fun n d i=>by rw[zbk (by rw[tu];exact d) (by rw[ub d];exact i),ub d]
 clear h h2 G;obtain⟨AO,J⟩:=aP (p.ao);rw[J.o]at u s;go_enter func149,ntmps149;go_wp2
 go_loopg [9,10] T.length (fun g tv pv wr=>∃n t:Nat,n<=T.length/\g=T.length-n/\t<=2/\tv=int i64 t/\pv=int i64 n/\Xq (t=Fw b (cY T) C D x y n)/\Xq (aa [] w wr))
 ·exact⟨0,0,by omega,by omega,by omega,rfl,rfl,rfl,aa.refl _ _⟩
 obtain⟨n,t,al,hg,Y,rfl,rfl,S,l⟩:=hrel;obtain⟨c0,ag⟩:=u.o _ l.o;by_cases k:n<T.length
 ·obtain⟨gp,ep,E⟩:=s.o n k;obtain⟨af,d0,d1,d2,d3,d4⟩:=E _ l.o;have HW:Xq _:=A.o n k _ l.o;have R:Xq _:=Q.o n k;have K:Xq _:=I.o n k;unfold Ik at HW;rw[ep]at c0;have ai:(n:Int)<T.length:=by omega
  clear ep E;generalize T[n]=m at *;cases hb:(m.P.code.toList==D.toList)
  ·have j:Xq (t=Fw b (cY T) C D x y (n+1)):=(by show _=_;rw[R.o hb];exact S.o);go_wp2;go_roundg (T.length-(n+1))
   ·exact⟨n+1,t,by omega,rfl,Y,rfl,by go_num,j,l⟩
   omega
  ·have j:Xq (Fw b (cY T) C D x y (n+1)=cp (t+cp (mI b C m.P x y))):=(by show _=_;rw[K.o hb,<-S.o]);have an:cp (mI b C m.P x y)<=2:=oY _;generalize cp (mI b C m.P x y)=ac at *;obtain⟨z,V⟩:=aP (t+ac);have hz:(t:Int)+(ac:Int)=(z:Int):=(by have:=V.o;omega);have ap:z<=4:=(by have:=V.o;omega);rw[V.o]at j;have U:Xq _:=fun w=>IB z w (by omega);(go_upto_region 7 with (go_at_call 150;refine Xx HW.o ?_;rintro e4 w4 ⟨rfl,k4⟩));have M:Xq _:=l.o.trans k4;clear k4;go_wp2_with (go_at_call 201;refine Xx (U.o _) ?_;rintro e5 w5 ⟨rfl,F⟩;rw[F];clear F);go_roundg (T.length-(n+1))
   ·exact⟨n+1,cp z,by omega,rfl,oY _,rfl,by go_num,j.o.symm,M⟩
   omega
 ·obtain rfl:n=T.length:=by omega
  go_wp2;go_ret;exact⟨au (by rw[S.o,O.o]),l.o⟩
def ye(G:Nat->Nat->Nat->Nat)(c i j t:Nat):Nat->Nat->Nat->Nat:=fun c' i' j'=>if c'=c/\i'=i/\j'=j then t else G c' i' j'
def Uz(S nc:Nat)(G:Nat->Nat->Nat->Nat):Nat:=sm (fun c=>sm (fun i=>sm (fun j=>2-G c i j) S) S) nc
theorem VO{S nc:Nat}{G:Nat->Nat->Nat->Nat}{t:Nat}(f:l<nc)(g:a<S)(i:I<S)(m:t<=2)(j:G l a I<t):Uz S nc (ye G l a I t)<Uz S nc G:=by
 have e:∀d c b,2-ye G l a I t d c b<=2-G d c b:=fun d c b=>by
  unfold ye;split
  ·next h=>obtain⟨rfl,rfl,rfl⟩:=h;omega
  ·omega
 refine IL (k:=l) (fun d _=>Dy (fun c _=>Dy (fun b _=>e d c b))) f ?_;refine IL (k:=a) (fun c _=>Dy (fun b _=>e l c b)) g ?_;refine IL (k:=I) (fun b _=>e l a b) i ?_;show 2-ye G l a I t l a I<2-G l a I;unfold ye;rw[XA ⟨rfl,rfl,rfl⟩];omega
structure Qu(w0:World)(gq:Nat)(Qs:List mJ)(hp hx hc hn:Hd)(n:Nat)(rb:Nat->Nat):Prop where
 lo:∀c,c<n->w0.heap.size<=rb c
 gq:∀c,c<n->rb c≠gq
 hp:∀c,c<n->hp.Zbx≠some (rb c)
 hx:∀c,c<n->hx.Zbx≠some (rb c)
 hc:∀c,c<n->hc.Zbx≠some (rb c)
 hn:∀c,c<n->hn.Zbx≠some (rb c)
 qs:∀c,c<n->∀m∈Qs,m.hb.Zbx≠some (rb c)/\m.hv.Zbx≠some (rb c)/\m.ht.Zbx≠some (rb c)
 inj:∀c d,c<n->d<n->c≠d->rb c≠rb d
section
variable {w0 w w':World} {gq:Nat} {Qs:List mJ} {hp hx hc hn:Hd} {tx codes:Xs} {rb:Nat->Nat} {G:Nat->Nat->Nat->Nat}
theorem ss.put(h:ss w gq Qs hp hx hc hn tx codes rb G)(s:Qu w0 gq Qs hp hx hc hn codes.length rb)(t:Nat)(c:l<codes.length)(o:a<tx.length+1)(p:I<tx.length+1):ss (w.setCell ⟨rb l,a*(tx.length+1)+I,none⟩ (int i64 t)) gq Qs hp hx hc hn tx codes rb (ye G l a I t):=by
 have k:aa [rb l] w (w.setCell ⟨rb l,a*(tx.length+1)+I,none⟩ (int i64 t)):=(aa.refl _ _).sl1 _;refine⟨k.get h.Zbx (by simp;exact fun e=>s.gq l c e.symm),h.prd.keptS k (fun g e q=>?_),fun m i=>?_,h.txt.Zbw k (fun x e q=>?_),h.cod.Zbw k (fun x e q=>?_),h.cnt.keptS k (fun g e q=>?_),fun d f=>?_⟩
 ·rw[XH.1 q]at e;exact s.hp l c (xk e)
 ·have z:=s.qs l c m i;have y:=h.each m i;exact⟨y.b.Zbw k (fun x e q=>by rw[XH.1 q]at e;exact z.1 e),y.v.Zbw k (fun x e q=>by rw[XH.1 q]at e;exact z.2.1 e),y.t.Zbw k (fun x e q=>by rw[XH.1 q]at e;exact z.2.2 e),y.len,y.bl,y.vl⟩
 ·rw[XH.1 q]at e;exact s.hx l c e
 ·rw[XH.1 q]at e;exact s.hc l c e
 ·rw[XH.1 q]at e;exact s.hn l c (xk e)
 ·by_cases e:d=l
  ·subst e;have:=ce.put (h.row d f) (a*(tx.length+1)+I) t;rw[C0 (G d) t o p]at this;refine(xB (fun j k _ _=>?_)) ▸ this
   unfold nY ye;by_cases q:j=a/\k=I
   ·rw[XA q,XA ⟨rfl,q.1,q.2⟩]
   ·rw[Xz q,Xz (fun z=>q z.2)]
  ·have:=k.get (h.row d f) (by simp;exact s.inj d l f c e);have n:iH (tx.length+1) (tx.length+1) (ye G l a I t d)=iH (tx.length+1) (tx.length+1) (G d):=xB (fun j k _ _=>by unfold ye;rw[Xz (fun z=>e z.1)]);show ce _ _ _;rw[n];exact this
def Ahd(c i j c' i' j':Nat):Prop:=c'<c∨(c'=c/\(i'<i∨(i'=i/\j'<j)))
structure zk(w0 w:World)(gq:Nat)(Qs:List mJ)(hp hx hc hn:Hd)(tx codes:Xs)(rb:Nat->Nat)(G:Nat->Nat->Nat->Nat)(c i j:Nat)(ag:Bool)(M:Nat):Prop where
 at_:ss w gq Qs hp hx hc hn tx codes rb G
 ok:Cb G
 q:Uw tx (cY Qs) (CG codes G)
 kp:aa [] w0 w
 no:ag=false->∀c' i' j',c'<codes.length->i'<=j'->j'<tx.length+1->Ahd c i j c' i' j'->FC tx (cY Qs) (CG codes G) (codes.getD c' ⟨#[]⟩) i' j'=G c' i' j'
 le:Uz (tx.length+1) codes.length G<=M
 yes:ag=true->Uz (tx.length+1) codes.length G<M
section
variable {c i j M:Nat} {ag:Bool}
theorem zk.skip(h:zk w0 w gq Qs hp hx hc hn tx codes rb G c i j ag M)(k:aa [] w w')(e:FC tx (cY Qs) (CG codes G) (codes.getD c ⟨#[]⟩) i j=G c i j):zk w0 w' gq Qs hp hx hc hn tx codes rb G c i (j+1) ag M:=by
 refine⟨h.at_.Zbj k,h.ok,h.q,h.kp.trans k,fun q d f g l m n a=>?_,h.le,h.yes⟩;by_cases z:d=c/\f=i/\g=j
 ·obtain⟨rfl,rfl,rfl⟩:=z;exact e
 ·refine h.no q d f g l m n ?_;rcases a with a | ⟨a,b | ⟨b,o⟩⟩
  ·exact XQ a
  ·exact XK ⟨a,XQ b⟩
  ·exact XK ⟨a,XK ⟨b,Nat.lt_of_le_of_ne (by omega) (fun e=>z ⟨a,b,e⟩)⟩⟩
theorem zbH(d:vK codes)(a:c<codes.length)(h:Uw tx (cY Qs) (CG codes G))(e:i<tx.length+1)(f:j<tx.length+1):G c i j<=FC tx (cY Qs) (CG codes G) (codes.getD c ⟨#[]⟩) i j:=by
 have b:bZ codes (codes.getD c ⟨#[]⟩)=some c:=(rG d a _).2 (by simp);have:=h.up (codes.getD c ⟨#[]⟩) i j e f;rw[uC b]at this;exact this
theorem zk.put(h:zk w0 w gq Qs hp hx hc hn tx codes rb G c i j ag M)(s:Qu w0 gq Qs hp hx hc hn codes.length rb)(o:vK codes)(k:aa [] w w')(f:c<codes.length)(p:i<=j)(l:j<tx.length+1)(t:FC tx (cY Qs) (CG codes G) (codes.getD c ⟨#[]⟩) i j≠G c i j) :
  zk w0 (w'.setCell ⟨rb c,i*(tx.length+1)+j,none⟩ (int i64 (FC tx (cY Qs) (CG codes G) (codes.getD c ⟨#[]⟩) i j))) gq Qs hp hx hc hn tx codes rb (ye G c i j (FC tx (cY Qs) (CG codes G) (codes.getD c ⟨#[]⟩) i j)) c i (j+1) true M:=by
 have u:=zbH (i:=i) (j:=j) o f h.q (by omega) l;have r:G c i j<FC tx (cY Qs) (CG codes G) (codes.getD c ⟨#[]⟩) i j:=Nat.lt_of_le_of_ne u (fun e=>t e.symm);have n:FC tx (cY Qs) (CG codes G) (codes.getD c ⟨#[]⟩) i j<=2:=Jt _ _ _;have v:=VO (S:=tx.length+1) (nc:=codes.length) f (by omega:i<tx.length+1) l n r;refine⟨(h.at_.Zbj k).put s _ f (by omega) l,⟨fun a b d=>?_,fun a b d m=>?_⟩,h.q.step (fun x a b=>?_),(h.kp.trans k).setCell (XK (s.lo c f)) _,(fun q=>by cases q),?_,fun _=>?_⟩
 ·unfold ye;split
  ·exact n
  ·exact h.ok.two a b d
 ·unfold ye;split
  ·next z=>omega
  ·exact h.ok.tri a b d m
 ·cases g:bZ codes x with
  | none=>left;unfold CG;rw[g]
  | some z =>
   rw[uC g,uC g];unfold ye;by_cases e:z=c/\a=i/\b=j
   ·rw[XA e];obtain⟨rfl,rfl,rfl⟩:=e
    right
    exact⟨by omega,l,by rw[qM g]⟩
   ·rw[Xz e];exact XQ rfl
 ·have:=h.le;omega
 ·have:=h.le;omega
theorem zk.row(h:zk w0 w gq Qs hp hx hc hn tx codes rb G c i (tx.length+1) ag M):zk w0 w gq Qs hp hx hc hn tx codes rb G c (i+1) (i+1) ag M:=by
 refine⟨h.at_,h.ok,h.q,h.kp,fun q f d l g j b a=>h.no q f d l g j b ?_,h.le,h.yes⟩;rcases a with a | ⟨a,k | ⟨k,m⟩⟩
 ·exact XQ a
 ·by_cases e:d=i
  ·exact XK ⟨a,XK ⟨e,b⟩⟩
  ·exact XK ⟨a,XQ (by omega)⟩
 ·omega
theorem zk.code(h:zk w0 w gq Qs hp hx hc hn tx codes rb G c (tx.length+1) j ag M):zk w0 w gq Qs hp hx hc hn tx codes rb G (c+1) 0 0 ag M:=by
 refine⟨h.at_,h.ok,h.q,h.kp,fun q b k l d f g a=>h.no q b k l d f g ?_,h.le,h.yes⟩;rcases a with a | ⟨a,i | ⟨i,m⟩⟩
 ·by_cases e:b=c
  ·exact XK ⟨e,XQ (by omega)⟩
  ·exact XQ (by omega)
 ·omega
 ·omega
theorem zk.done(h:zk w0 w gq Qs hp hx hc hn tx codes rb G codes.length i j false M)(d:∀P∈cY Qs,∃k,bZ codes P.code=some k):yT tx (cY Qs) (CG codes G):=by
 refine h.q.done (fun x a b l g=>?_);cases c:bZ codes x with
 | none=>rw[Js d c a b];exact XX _
 | some z =>
  by_cases e:a<=b
  ·have f:z<codes.length:=XI.1 (XS c);have:=h.no rfl z a b f e g (XQ f);rw[qM c]at this;rw[this,uC c];exact Xy _
  ·rw[DN h.q.tri x a b (by omega)];exact XX _
theorem zk.again(h:zk w0 w gq Qs hp hx hc hn tx codes rb G c i j ag M):zk w0 w gq Qs hp hx hc hn tx codes rb G 0 0 0 false (Uz (tx.length+1) codes.length G) :=
 ⟨h.at_,h.ok,h.q,h.kp,(fun _ d f g _ _ _ a=>by rcases a with a | ⟨a,b | ⟨b,e⟩⟩ <;> omega),Xy _,(fun q=>by cases q)⟩
end
end
def cnV(S:Nat)(r:Nat):List Value:=[slice (some ⟨r,0,none⟩) (S*S) (S*S)]
def oF(Qs:List mJ):eD:=lu 185 5 pqV Qs
def wN(S:Nat)(R:Xu):eD:=lu 25 1 (cnV S) R
def GE(Qs:List mJ)(hx:Hd)(tx codes:Xs)(R:Xu)(H:Nat->Hd):List Value:=[slice (H 0).ao Qs.length (H 0).cap,slice hx.ao tx.length hx.cap,slice (H 1).ao codes.length (H 1).cap,slice (H 2).ao R.length (H 2).cap]
def Fu(Qs:List mJ)(codes:Xs)(S:Nat)(R:Xu):Nat->eD
 | 0=>oF Qs
 | 1=>aE codes
 | 2=>wN S R
 | _+3=>aE []
theorem Rz(b:Xu):∀j,j≠2->Fu z7 v x b j=Fu z7 v x g j:=by
 intro j a
 match j,a with
 | 0,_=>rfl
 | 1,_=>rfl
 | 2,a=>exact absurd rfl a
 | j+3,_=>rfl
theorem Ob:∀j,j≠1->Fu T v x g j=Fu T b x g j:=by
 intro j a
 match j,a with
 | 0,_=>rfl
 | 1,a=>exact absurd rfl a
 | 2,_=>rfl
 | j+3,_=>rfl
theorem GF:∀j,j≠0->Fu z7 v x g j=Fu T v x g j:=by
 intro j a
 match j,a with
 | 0,a=>exact absurd rfl a
 | 1,_=>rfl
 | 2,_=>rfl
 | j+3,_=>rfl
def mB(w:World)(gq:Nat)(H:Nat->Hd)(h:Hd):Prop:=∀g,h.Zbx=some g->g≠gq/\¬eG H g/\g<w.heap.size
theorem mB.Zbj(f:mB o l A t)(k:aa [] o z):mB z l A t:=fun g e=>⟨(f g e).1,(f g e).2.1,XB (f g e).2.2 k.size⟩
theorem mB.turned(f:mB o l A t)(a:aw l o A z z8):mB z l z8 t:=fun g e=>⟨(f g e).1,a.fresh _ (f g e).2.2 (f g e).2.1,XB (f g e).2.2 a.1.size⟩
theorem mB.view(f:mB o l A t)(a:aw l o A z z8)(v:dB o t u):dB z t u:=v.keptP a.1 (fun x e q=>by rcases q with q | q;exact(f x e).1 q;exact(f x e).2.1 q)
structure sC(w0 w:World)(gq:Nat)(Qs:List mJ)(hx:Hd)(tx codes:Xs)(R:Xu)(H:Nat->Hd):Prop where
 bag:aO w gq 183 (GE Qs hx tx codes R H) (Fu Qs codes (tx.length+1) R) H
 kp:aa [] w0 w
 lo:w0.heap.size<=gq
 hi:∀k,eG H k->w0.heap.size<=k
 each:∀m∈Qs,qw w m
 far:∀m∈Qs,mB w gq H m.hb/\mB w gq H m.hv/\mB w gq H m.ht
 txt:dB w hx tx
 ftx:mB w gq H hx
 row:∀r∈R,ce w r (iH (tx.length+1) (tx.length+1) (fun _ _=>0))/\r≠gq/\¬eG H r/\w0.heap.size<=r
 sep:∀r∈R,hx.Zbx≠some r/\∀m∈Qs,m.hb.Zbx≠some r/\m.hv.Zbx≠some r/\m.ht.Zbx≠some r
 nod:R.Nodup
section
variable {w0 w w':World} {gq:Nat} {Qs:List mJ} {hx:Hd} {tx codes:Xs} {R:Xu} {H H':Nat->Hd}
theorem sC.Zbj(h:sC w0 w gq Qs hx tx codes R H)(k:aa [] w w'):sC w0 w' gq Qs hx tx codes R H :=
 ⟨h.bag.Zbj k,h.kp.trans k,h.lo,h.hi,fun m a=>(h.each m a).Zbj k,fun m a=>⟨(h.far m a).1.Zbj k,(h.far m a).2.1.Zbj k,(h.far m a).2.2.Zbj k⟩,h.txt.Zbj k,h.ftx.Zbj k,fun r b=>⟨k.get (h.row r b).1 (by simp),(h.row r b).2⟩,h.sep,h.nod⟩
theorem qw.turned(h:qw w d)(f:mB w gq H d.hb/\mB w gq H d.hv/\mB w gq H d.ht)(t:aw gq w H w' H'):qw w' d:=⟨f.1.view t h.b,f.2.1.view t h.v,f.2.2.view t h.t,h.len,h.bl,h.vl⟩
theorem sC.turned(h:sC w0 w gq Qs hx tx codes R H)(t:aw gq w H w' H')(g:aO w' gq 183 (GE Qs hx tx u R H') (Fu Qs u (tx.length+1) R) H'):sC w0 w' gq Qs hx tx u R H':=by
 refine⟨g,aa.ofP h.kp t.1 (fun k b=>?_),h.lo,fun k b=>?_,fun m a=>(h.each m a).turned (h.far m a) t,fun m a=>⟨(h.far m a).1.turned t,(h.far m a).2.1.turned t,(h.far m a).2.2.turned t⟩,h.ftx.view t h.txt,h.ftx.turned t,fun r i=>?_,h.sep,h.nod⟩
 ·rcases b with rfl | b
  ·exact h.lo
  ·exact h.hi k b
 ·rcases t.2 k b with q | q
  ·exact h.hi k q
  ·exact XF h.kp.size q
 ·obtain⟨c,d,e,f⟩:=h.row r i;exact⟨t.1.get c (fun q=>by rcases q with q | q;exact d q;exact e q),d,t.fresh _ (ah c) e,f⟩
theorem sC.pushP(h:sC w0 w gq Qs hx tx codes [] H)(b:qw w d)(i:mB w gq H d.hb/\mB w gq H d.hv/\mB w gq H d.ht)(t:aw gq w H w' H')(g:aO w' gq 183 (GE (Qs++[d]) hx tx codes [] H') (Fu (Qs++[d]) codes (tx.length+1) []) H'):sC w0 w' gq (Qs++[d]) hx tx codes [] H':=by
 have a:∀q∈Qs++[d],qw w q/\mB w gq H q.hb/\mB w gq H q.hv/\mB w gq H q.ht:=fun q j=>by
  rcases X9.1 j with e | e
  ·exact⟨h.each q e,h.far q e⟩
  ·rw[XH.1 e];exact⟨b,i⟩
 refine⟨g,aa.ofP h.kp t.1 (fun k c=>?_),h.lo,fun k c=>?_,fun d b=>(a d b).1.turned (a d b).2 t,fun d b=>⟨(a d b).2.1.turned t,(a d b).2.2.1.turned t,(a d b).2.2.2.turned t⟩,h.ftx.view t h.txt,h.ftx.turned t,(fun r f=>by cases f),(fun r f=>by cases f),List.nodup_nil⟩
 ·rcases c with rfl | c
  ·exact h.lo
  ·exact h.hi k c
 ·rcases t.2 k c with q | q
  ·exact h.hi k q
  ·exact XF h.kp.size q
theorem sC.pushR(h:sC w0 w gq Qs hx tx codes R H)(x:ce w l (iH (tx.length+1) (tx.length+1) (fun _ _=>0)))(p:l≠gq/\¬eG H l/\w0.heap.size<=l)(r:hx.Zbx≠some l/\∀m∈Qs,m.hb.Zbx≠some l/\m.hv.Zbx≠some l/\m.ht.Zbx≠some l)(s:l∉R)(t:aw gq w H w' H')(g:aO w' gq 183 (GE Qs hx tx codes (R++[l]) H') (Fu Qs codes (tx.length+1) (R++[l])) H'):sC w0 w' gq Qs hx tx codes (R++[l]) H':=by
 have d:∀q∈R++[l],(ce w q (iH (tx.length+1) (tx.length+1) (fun _ _=>0))/\q≠gq/\¬eG H q/\w0.heap.size<=q)/\(hx.Zbx≠some q/\∀m∈Qs,m.hb.Zbx≠some q/\m.hv.Zbx≠some q/\m.ht.Zbx≠some q):=fun q i=>by
  rcases X9.1 i with e | e
  ·exact⟨h.row q e,h.sep q e⟩
  ·rw[XH.1 e];exact⟨⟨x,p⟩,r⟩
 refine⟨g,aa.ofP h.kp t.1 (fun k f=>?_),h.lo,fun k f=>?_,fun m c=>(h.each m c).turned (h.far m c) t,fun m c=>⟨(h.far m c).1.turned t,(h.far m c).2.1.turned t,(h.far m c).2.2.turned t⟩,h.ftx.view t h.txt,h.ftx.turned t,fun q i=>?_,fun q i=>(d q i).2,?_⟩
 ·rcases f with rfl | f
  ·exact h.lo
  ·exact h.hi k f
 ·rcases t.2 k f with q | q
  ·exact h.hi k q
  ·exact XF h.kp.size q
 ·obtain⟨j,n,o,y⟩:=(d q i).1;exact⟨t.1.get j (fun q=>by rcases q with q | q;exact n q;exact o q),n,t.fresh _ (ah j) o,y⟩
 ·rw[List.nodup_append];refine⟨h.nod,by simp,fun a u b v e=>?_⟩;rw[XH.1 v]at e;exact s (e ▸ u)
theorem sC.cells(h:sC w0 w gq Qs hx tx codes R H):w.cell? ⟨gq,0,none⟩=some (slice (H 0).ao Qs.length (H 0).cap)/\w.cell? ⟨gq,1,none⟩=some (slice hx.ao tx.length hx.cap)/\w.cell? ⟨gq,2,none⟩=some (slice (H 1).ao codes.length (H 1).cap)/\w.cell? ⟨gq,3,none⟩=some (slice (H 2).ao R.length (H 2).cap)/\gq<w.heap.size:=by
 refine⟨?_,?_,?_,?_,h.bag.lt⟩ <;> (rw[h.bag.cell];rfl)
def Wc(R:Xu):Nat->Nat:=fun c=>R.getD c 0
theorem MX(a:l<R.length):Wc R l∈R:=by unfold Wc;rw[Xw,Xv a];exact XM a
theorem sC.ready(h:sC w0 w gq Qs hx tx codes R H)(j:R.length=codes.length):ss w gq Qs (H 0) hx (H 1) (H 2) tx codes (Wc R) (fun _ _ _=>0):=by
 refine⟨by rw[h.bag.Zbx];simp[GE,j],(aD.srcG (show aD w (H 0) (oF Qs) from h.bag.ZbH 0) (fun _=>rfl)),h.each,h.txt,(show aD w (H 1) (aE codes) from h.bag.ZbH 1).view,fun k x b=>?_,fun c l=>(h.row _ (MX (by omega))).1⟩;have a:=(XL.1 b).1;rw[YW]at a;rw[Zp a]at b;cases b
 obtain⟨g,e,f,i⟩:=(aD.srcG (show aD w (H 2) (wN (tx.length+1) R) from h.bag.ZbH 2) (fun _=>rfl)) k (R[k]'(by omega)) (Xv (by omega));refine⟨g,e,f,fun c u d=>i c u ?_⟩;have:Wc R k=R[k]'(by omega):=by unfold Wc;rw[Xw,Xv (by omega)];rfl
 unfold rwC at d;rw[this]at d;exact d
theorem sC.sepq(h:sC w0 w gq Qs hx tx codes R H)(i:R.length=codes.length):Qu w0 gq Qs (H 0) hx (H 1) (H 2) codes.length (Wc R):=by
 have b:∀c,c<codes.length->Wc R c∈R:=fun c a=>MX (by omega);refine⟨fun c a=>(h.row _ (b c a)).2.2.2,fun c a=>(h.row _ (b c a)).2.1,fun c a e=>(h.row _ (b c a)).2.2.1 ⟨0,e⟩,fun c a=>(h.sep _ (b c a)).1,fun c a e=>(h.row _ (b c a)).2.2.1 ⟨1,e⟩,fun c a e=>(h.row _ (b c a)).2.2.1 ⟨2,e⟩,fun c a=>(h.sep _ (b c a)).2,fun c d a g f e=>?_⟩;unfold Wc at e;rw[Xw,Xv (by omega),Xw,Xv (by omega)]at e;exact f ((List.getElem_inj h.nod).1 e)
end
theorem zay:(prog.info? 25).map (fun i=>(i.zero,i.size,i.bytes))=some (some (slice none 0 0),1,24):=by kernel_rfl
theorem KR:(⟨(wN x g).e,(wN x g).size,(wN x g).n+1,(wN x g).xs++cnV x y⟩:eD)=wN x (g++[y]):=fT _ _ _ _ _
theorem Oc:iH x y (fun _ _=>0)=List.replicate (x*y) 0:=by unfold iH;exact List.map_const' .. |>.trans (by simp)
def msB(S nc:Nat)(ag:Bool)(G:Nat->Nat->Nat->Nat):Nat:=if ag=true then 1+Uz S nc G else 0
def zaf(w0:World)(gq:Nat)(Qs:List mJ)(hx:Hd)(tx codes:Xs)(w':World):Prop:=∃hp hc hn rb G,ss w' gq Qs hp hx hc hn tx codes rb G/\yT tx (cY Qs) (CG codes G)/\Cb G/\aa [] w0 w'
def SvX(w0 w:World)(gq:Nat)(Qs:List mJ)(hp hx hc hn:Hd)(tx codes:Xs)(rb:Nat->Nat)(G:Nat->Nat->Nat->Nat)(ag:Bool):Prop:=∃c M,zk w0 w gq Qs hp hx hc hn tx codes rb G c 0 0 ag M/\(ag=false->c=codes.length)
theorem dB.el(v:dB o t u)(b:l<u.length):∃g a,t.ao=some ⟨g,a,none⟩/\g<o.heap.size/\o.cell? ⟨g,a+l,none⟩=some (string u[l]):=by
 rcases v with i | ⟨g,a,d,m,e,c,f,j,k⟩
 ·rw[i]at b;simp at b
 ·exact⟨g,a,e,ah c,by rw[ab c];exact f l _ (Xv b)⟩
theorem KY(E:World)(l:Nat)(d:List mJ)(v:Hd)(b a:Xs)(H:Nat->Hd)(w:World)(h:sC E w l d v b a [] H)(ht:b.length<=100)(b5:a.length<=100000)(b8:d.length<=100000)(hd:vK a)(Z:∀P∈cY d,∃k,bZ a P.code=some k) :
  Calls prog 107 #[pointer (some ⟨l,0,none⟩)] w fun e X=>e=returned (tuple #[])/\zaf E l d v b a X:=by
 have b0:Xq (∀B A s p G cd i j C,ss C l d B v A s b a p G->Cb G->i<=j->j<b.length+1->Calls prog 149 #[pointer (some ⟨l,0,none⟩),string cd,int i64 i,int i64 j] C fun e X=>e=returned (int i64 (FC b (cY d) (CG a G) cd i j))/\aa [] C X):=fun B A s p G cd i j C g1 g2 W hj=>Tu l d B v A s b a p G cd i j C g1 ht b5 b8 W hj g2.two (g2.cg a);have HD:Xq _:=hd;have bq:Xq _:=Z;have H0:Xq _:=h;obtain⟨-,c1,-,-,cy⟩:=h.cells;obtain⟨S,Q⟩:=aP (b.length+1);have co:(b.length:Int)+1=(S:Int):=by rw[<-Q.o];simp
 have hS:S<=101:=by rw[<-Q.o];omega
 have b3:S*S<=101*101:=YF hS hS;obtain⟨N,HN⟩:=aP (S*S);have cl:(S:Int)*(S:Int)=(N:Int):=by rw[<-HN.o];simp
 rw[HN.o]at b3;obtain⟨i0,be,bl,bm,bo⟩:=XV ru;have m1:=fun w=>bY (P:=prog) w 25 3 i0 _ underlying25 be bl N 1 bm (by rw[bo];omega) (by omega);obtain⟨mc,a3⟩:=aP (madeCells (int i64 0).cells (N*1));have bw:Xq (mc=(eR (iH (b.length+1) (b.length+1) (fun _ _=>0))).toArray):=cm (by rw[<-a3.o,qI,Oc,Q.o,HN.o]);rw[a3.o]at m1;obtain⟨iC,bf,af,ai,bp⟩:=XV zay;have bs:Xq _:=bf;have b1:Xq _:=af;have b2:Xq _:=ai;clear h hd Z bf af ai be bl bm bo;go_enter func107,ntmps107;go_wp2
 go_loopg [3] a.length (fun g cv wr=>∃(c:Nat) (R:Xu) (H':Nat->Hd),c<=a.length/\g=a.length-c/\cv=int i64 c/\R.length=c/\Xq (sC E wr l d v b a R H'))
 ·exact⟨0,[],H,by omega,by omega,rfl,rfl,H0⟩
 obtain⟨c,R,H1,a7,hg,rfl,V,z⟩:=hrel;subst V;obtain⟨-,d1,d2,d3,cb⟩:=z.o.cells;have a4:=z.o.bag.free 3;by_cases cE:R.length<a.length
 ·have b4:(R.length:Int)<a.length:=by omega
  have kA:aa [] wr ((wr.alloc (.cells mc 3)).alloc (.cells #[slice (some ⟨wr.heap.size,0,none⟩) N N] 25)):=((aa.refl [] wr).alloc _).alloc _;have hA:=aO.Zbj z.o.bag kA;have O:aD _ (H1 2) (wN (b.length+1) R):=aO.ZbH hA 2;have ax:Xq _:=z.o.Zbj kA;have aT:Xq (ce ((wr.alloc (.cells mc 3)).alloc (.cells #[slice (some ⟨wr.heap.size,0,none⟩) N N] 25)) wr.heap.size (iH (b.length+1) (b.length+1) (fun _ _=>0))):=by
   show _=_;rw[<-bw.o];exact((aa.refl [] (wr.alloc (.cells mc 3))).alloc (.cells #[slice (some ⟨wr.heap.size,0,none⟩) N N] 25)).get (XD _ _) (by simp)
  have a1:Xq (∀wz H2,aO wz l 183 (GE d v b a (R++[wr.heap.size]) H2) (Fu d a (b.length+1) (R++[wr.heap.size])) H2->aw l ((wr.alloc (.cells mc 3)).alloc (.cells #[slice (some ⟨wr.heap.size,0,none⟩) N N] 25)) H1 wz H2->sC E wz l d v b a (R++[wr.heap.size]) H2):=fun wz H2 g1 g2=>by
   refine ax.o.pushR aT.o ⟨fun e=>by have:=z.o.bag.lt;omega,fun q=>by have:=z.o.bag.inlt q;omega,z.o.kp.size⟩ ⟨fun e=>by have:=(z.o.ftx _ e).2.2;omega,fun m hm=>⟨fun e=>by have:=((z.o.far m hm).1 _ e).2.2;omega,fun e=>by have:=((z.o.far m hm).2.1 _ e).2.2;omega,fun e=>by have:=((z.o.far m hm).2.2 _ e).2.2;omega⟩⟩ (fun hr=>by have:=ah (z.o.row _ hr).1;omega) g2 g1
  have a5:∀x,cnV (b.length+1) x=[slice (some ⟨x,0,none⟩) N N]:=fun x=>by unfold cnV;rw[Q.o,HN.o]
  have al:Xq _:=KR (b.length+1) R wr.heap.size;rw[a5]at al;clear z kA;go_wp2_with ((at_builtin;refine aR _ rfl (.tmp 34) (.tmp 36) 181 rfl iC (slice none 0 0) 24 (H1 2) (wN (b.length+1) R) underlying181 bs.o b1.o b2.o bp rfl XR rfl O ⟨wr.heap.size+1,0,none⟩ 1 1 [slice (some ⟨wr.heap.size,0,none⟩) N N] rfl rfl ?c1 ?c2 XR ?c3 ?c4 ?_))
  case c1=>intro j u hj;match j,hj with | 0,hj=>simp at hj;subst hj;simp[Addr.add]
  case c2=>intro u hu;simp at hu;subst hu;rfl
  case c3=>show R.length+1<=_;unfold maxLen;omega
  case c4=>show(R.length+1)*24<=_;omega
  ·intro g2 Y w2 bk bd D;obtain⟨k0,f0,HP⟩:=aO.app hA (cs':=GE d v b a (R++[wr.heap.size]) (gj H1 2 ⟨some ⟨g2,0,none⟩,Y⟩)) (rows':=Fu d a (b.length+1) (R++[wr.heap.size])) 3 2 g2 Y (R.length+1) _ bk al.o bd (by simpa using D) (Rz d a _ R _) _ rfl (by simp[GE,gj]);have HZ:Xq _:=a1.o _ _ HP.o.1 HP.o.2;have cz:=HP.o.1.lt;clear hA O bk bd D HP ax aT a1 al d1 d2 d3 a4;go_wp2;go_roundg (a.length-(R.length+1))
   ·exact⟨R.length+1,R++[wr.heap.size],_,by omega,rfl,by go_num,by rw[XC];rfl,HZ⟩
   omega
 ·have b4:¬(R.length:Int)<a.length:=by omega
  have V:R.length=a.length:=by omega
  have ar:Xq _:=z.o.ready V;have bT:Xq _:=z.o.sepq V;have a0:Xq _:=z.o.kp;generalize H1 0=B at *;generalize H1 1=A at *;generalize H1 2=s at *;generalize Wc R=p at *;have a2:Xq (SvX E wr l d B v A s b a p (fun _ _ _=>0) true):=by
   have e0:CG a (fun _ _ _=>0)=(fun _ _ _=>0):=by funext c i j;unfold CG;split <;> rfl
   exact⟨0,Uz (b.length+1) a.length (fun _ _ _=>0)+1,⟨ar.o,⟨fun _ _ _=>XX _,fun _ _ _ _=>rfl⟩,by rw[e0];exact Uw.first,a0.o,(fun q=>by cases q),ZU _,fun _=>Nat.lt_succ_self _⟩,fun q=>by cases q⟩
  clear z ar a0 d1 d3 a4 m1;go_wp2
  go_loopg [6] (msB (b.length+1) a.length true (fun _ _ _=>0)) (fun gk av wr=>∃(f:Bool) (G:Nat->Nat->Nat->Nat),av=bool f/\gk=msB (b.length+1) a.length f G/\Xq (SvX E wr l d B v A s b a p G f))
  ·exact⟨true,_,rfl,rfl,a2⟩
  obtain⟨f,G0,rfl,ba,HX⟩:=hrel;cases f
  ·have HE:Xq (zaf E l d v b a wr):=by
    obtain⟨c,M,h1,h2⟩:=HX.o;obtain rfl:=h2 rfl;exact⟨B,A,s,p,G0,h1.at_,h1.done bq.o,h1.ok,h1.kp⟩
   go_wp2;go_end0;exact⟨rfl,HE.o⟩
  ·obtain⟨M,HM⟩:∃M,Xq (Uz (b.length+1) a.length G0=M):=⟨_,rfl⟩
   have br:Xq (zk E wr l d B v A s b a p G0 0 0 0 false M):=by
    obtain⟨c,M',h1,h2⟩:=HX.o;rw[<-HM.o];exact h1.again
   have ac:gk=1+M:=(by rw[ba];unfold msB;rw[XA rfl,HM.o]);have bv:Xq (∀f G,Uz (b.length+1) a.length G<=M->(f=true->Uz (b.length+1) a.length G<M)->msB (b.length+1) a.length f G<gk):=fun f G h1 h2=>by
    rw[ac];unfold msB;split
    ·next q=>have:=h2 q;omega
    ·omega
   clear HX a2 ba ac;go_wp2
   go_loopg [6,7] a.length (fun g3 av cv wr=>∃(c:Nat) (f:Bool) (G:Nat->Nat->Nat->Nat),c<=a.length/\g3=a.length-c/\av=bool f/\cv=int i64 c/\Xq (zk E wr l d B v A s b a p G c 0 0 f M))
   ·exact⟨0,false,G0,by omega,rfl,rfl,rfl,br⟩
   obtain⟨c,f,G1,ca,cs,rfl,rfl,I⟩:=hrel;obtain⟨-,-,x2,-,cc⟩:=I.o.at_.cells;rcases kn c a.length with ⟨n,a6⟩ | ⟨n,a6⟩
   ·go_wp2
    go_loopg [6,8] S (fun g4 av iv wr=>∃(i:Nat) (f:Bool) (G:Nat->Nat->Nat->Nat),i<=S/\g4=S-i/\av=bool f/\iv=int i64 i/\Xq (zk E wr l d B v A s b a p G c i i f M))
    ·exact⟨0,f,G1,by omega,rfl,rfl,rfl,I⟩
    obtain⟨i,am,G4,cA,ct,rfl,rfl,aS⟩:=hrel;by_cases bg:i<S
    ·have b6:(i:Int)<=b.length:=(by omega);go_wp2
     go_loopg [6,9] (S-i) (fun g5 av jv wr=>∃(j:Nat) (f:Bool) (G:Nat->Nat->Nat->Nat),i<=j/\j<=S/\g5=S-j/\av=bool f/\jv=int i64 j/\Xq (zk E wr l d B v A s b a p G c i j f M))
     ·exact⟨i,am,G4,by omega,by omega,rfl,rfl,rfl,aS⟩
     obtain⟨j,an,G,W,cB,cu,rfl,rfl,y⟩:=hrel;by_cases ad:j<S
     ·have b7:(j:Int)<=b.length:=(by omega);have ap:j<b.length+1:=(by rw[Q.o];exact ad);obtain⟨-,y1,y2,-,cf⟩:=y.o.at_.cells;obtain⟨gc,oc,ec,cx,cq⟩:=y.o.at_.cod.el n;rw[ec]at y2;have az:Xq (a.getD c ⟨#[]⟩=a[c]):=fO _ _ n;have U:Xq _:=(fun X=>y.o.skip (w':=X));have F:Xq _:=(fun X k=>y.o.put (w':=X) bT.o HD.o k n W ap);have bz:Xq _:=b0.o B A s p G a[c] i j _ y.o.at_ y.o.ok W ap;rw[az.o]at U F;have T:Xq (∀C,aa [] wr C->∃gn,s.ao=some ⟨gn,0,none⟩/\gn<C.heap.size/\C.cell? ⟨gn,c,none⟩=some (slice (some ⟨p c,0,none⟩) N N)/\p c<C.heap.size/\C.cell? ⟨p c,i*S+j,none⟩=some (int i64 (G c i j))/\C.frozen? ⟨p c,i*S+j,none⟩=false/\C.cell? ⟨l,3,none⟩=some (slice s.ao a.length s.cap)/\l<C.heap.size):=fun C k=>by
       have g:=y.o.at_.Zbj k;obtain⟨gn,en,bc,a7⟩:=g.cnt c c (by rw[Zp n]);have z0:=a7 0 _ rfl;rw[YM,ZN,Q.o,HN.o]at z0;have aq:=g.row c n;refine⟨gn,en,bc,z0,ah aq,?_,zcW aq _,g.cells.2.2.2.1,g.cells.2.2.2.2⟩;rw[ab aq,<-Q.o];simp[eR,Ar (G c) (show i<b.length+1 by omega) ap]
      rw[Q.o]at F;obtain⟨q,hq⟩:∃q,i*S=q:=⟨_,rfl⟩
      have cF:(i:Int)*(S:Int)=(q:Int):=(by rw[<-hq];simp);have cH:q+j<N:=(by rw[<-hq,<-HN.o];exact pO bg ad);rw[hq]at T F;have ck:(q:Int)+(j:Int)<(N:Int):=by omega
      have cj:0<=(q:Int)+(j:Int):=(by omega);generalize a[c]=cd at *;generalize p c=rc at *;clear hq az ec;(go_upto_region 20 with (go_at_call 149;refine Xx bz.o ?_;rintro e7 w7 ⟨rfl,k7⟩));obtain⟨gn,en,bc,z0,cL,z1,z2,z3,ch⟩:=T.o w7 k7;rw[en]at z3;have K:Xq _:=(fun e=>U.o w7 k7 e);have J:Xq _:=F.o w7 k7;generalize FC b (cY d) (CG a G) cd i j=t at *;by_cases L:t=G c i j
      ·have r:Xq _:=K.o L;have bj:(t:Int)=(G c i j:Int):=(by rw[L]);clear L U F T K J en k7;go_wp2;go_roundg (S-(j+1))
       ·exact⟨j+1,an,G,by omega,by omega,rfl,rfl,by go_num,r⟩
       omega
      ·have r:Xq _:=J.o L;have bj:¬(t:Int)=(G c i j:Int):=(by omega);clear L U F T K J en k7;go_wp2;go_roundg (S-(j+1))
       ·exact⟨j+1,true,_,by omega,by omega,rfl,rfl,by go_num,r⟩
       omega
     ·have b7:¬(j:Int)<=b.length:=(by omega);have r:Xq (zk E wr l d B v A s b a p G c (i+1) (i+1) an M):=by
       have:=y.o;rw[show j=b.length+1 by have:=Q.o;omega]at this;exact this.row
      go_wp2;go_roundg (S-(i+1))
      ·exact⟨i+1,an,G,by omega,rfl,rfl,by go_num,r⟩
      omega
    ·have b6:¬(i:Int)<=b.length:=(by omega);have r:Xq (zk E wr l d B v A s b a p G4 (c+1) 0 0 am M):=by
      have:=aS.o;rw[show i=b.length+1 by have:=Q.o;omega]at this;exact this.code
     go_wp2;go_roundg (a.length-(c+1))
     ·exact⟨c+1,am,G4,by omega,rfl,rfl,by go_num,r⟩
     omega
   ·have r:Xq (SvX E wr l d B v A s b a p G1 f):=⟨c,M,I.o,fun _=>by omega⟩
    have bx:Xq _:=bv.o f G1 I.o.le I.o.yes;go_wp2;go_roundg (msB (b.length+1) a.length f G1)
    case measure=>exact bx.o
    case rel=>exact⟨f,G1,rfl,rfl,r⟩
end Go.Proofs.YtpdholcaobgofaaGreat

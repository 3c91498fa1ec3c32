import Derived.Laws.CopyOwn
import Derived.Test.YtpdholcaobgofaaGreatP29
import Derived.Test.YtpdholcaobgofaaGreatP31
namespace Go.Proofs.YtpdholcaobgofaaGreat
open Go.RowKit Tryz
open Value IntKind Ending
set_option maxHeartbeats 0
variable{d zf:World}{S I:Xs}{M u:Nat}{y5:Xt}{y2:Nat->Prop}{t:oy}{y3:dZ}(o:World)(x:Nat)(c:Hd)(n b:Xs)(v:List dZ)(y:List oy)(N:Nat->Hd)(f:St)(D g:Hd)(T:Xr)(y4 m:Nat)(k s:Xs)(l:World)(zt:List oy)(y6:oy)
set_option maxRecDepth 100000
theorem JK(A:Hd)(p:Xs)(i t B:Nat)(G:Nat->Nat->Nat->Nat)(e:Nat)(w:World)(h:go w y4 m A p i t B G)(F:p.length<=100) :
  Calls prog 146 #[pointer (some ⟨y4,0,none⟩),int i64 (-1),agg #[int i64 0,int i64 e]] w fun j r=>j=returned (int i64 0)/\aa [] w r:=by
 obtain⟨W,g⟩:=aP (w.alloc (.cells #[int i64 0,int i64 e] 242));have n:=dx g.o;have d:=dC g.o;obtain⟨C,D⟩:=uY d;have l:=ah d;have k:=h.Zbj n;obtain⟨-,-,s,E⟩:=k.cells;have y:=k.lt;have a:Xq _:=n;obtain⟨S,u⟩:∃S,p.length+1=S:=⟨_,rfl⟩
 rw[u]at s;have f:Xq (∀c,aa [] W c->Calls prog 196 #[pointer (some ⟨i,0,none⟩),int i64 (-(S:Int)),int i64 e] c fun j r=>j=returned (int i64 0)/\r=c):=fun c q=>zai i (-(S:Int)) e c (by omega);have z:(-1:Int)*(S:Int)=-(S:Int):=by omega
 have v:(0:Int)<(S:Int):=by omega
 have x:¬(S:Int)<=0:=by omega
 obtain⟨H,b⟩:=aP (w.heap.size);rw[b.o]at C D l;clear h k d n;go_enter func146,ntmps146;go_upto_region 1 with fail
 rw[g.o,b.o];go_quiet (fail);go_upto_region 3 with fail
 go_quiet ((go_at_call 196;exact E3 (f.o _ (bH.drewN _))));go_wp2;go_ret;exact⟨rfl,by first | exact(a.o.drewN _).drewN _ | exact a.o.drewN _⟩
def zbO(tx:Xs)(Ps:List dZ)(code:Xr)(w:World)(e:Ending)(w':World):Prop:=∃res:Int×Xs,sF tx Ps code res/\FrX res.2 res.1 w e w'
theorem Q1:(Instr.build 246 #[(0,pointer (some ⟨m,0,none⟩))]).run prog o=.ok (agg #[pointer (some ⟨m,0,none⟩),int i64 0,slice none 0 0]) o :=
 Za9 o 246 _ _ (by kernel_rfl)
theorem Cy(f:Xr)(w:World)(ok:Fz w x c n b v y D g)(bc:∀P∈v,ki P)(a6:∀P∈v,P.vars.length<=m)(az:m<=100000) :
  Calls prog 104 #[pointer (some ⟨x,0,none⟩),slice c.ao n.length c.cap,string f] w fun e w'=>zbO n v f w e w':=by
 have ai:Xq _:=EO x c n b v y D g w ok;have be:Xq (∀l,aa [] w l->Calls prog 145 #[pointer (some ⟨x,0,none⟩),string f] l fun e w'=>e=returned (int i64 (iu (bZ b f)))/\w'=l):=fun l q=>by
  have av:=ok.gm.Zbj q;have h5:b.length<=b.length*(n.length+1):=ZC _ (ZD _);exact CY x b D f l av.cells.1 av.lt av.cod (by have:=ok.hn;omega)
 have V:Xq _:=ok;have a5:=ok.ht;have bk:Xq _:=bc;have bm:Xq _:=a6;clear ok bc a6;go_enter func104,ntmps104;go_upto_region 2 with (go_at_call 144;refine Xx ai.o ?_;rintro e1 w1 ⟨M,cg,ca,G,rfl,aS,ax,is,k1⟩)
 have H:Xq _:=be.o w1 k1;obtain⟨r,hr⟩:=MO is f;have HR:Xq _:=hr;have T:Xq _:=aS;have af:Xq _:=ax;have A:Xq _:=is;have I:Xq _:=k1;have bj:Xq ((madeCells (agg #[int i64 0,int i64 0]).cells 0).size=0):=cm (by exact YJ _ _);clear aS ax is k1 hr ai bj;go_upto_region 4 with (go_at_call 145;refine Xx H.o ?_;rintro e2 w2 ⟨rfl,a7⟩;rw[a7];clear a7)
 obtain⟨W2,Z⟩:∃W,Xq (w1.alloc (.cells #[int i64 0,int i64 n.length] 242)=W):=⟨_,rfl⟩
 have B2:=dC Z.o;have C:Xq _:=dx Z.o;obtain⟨sb,an⟩:=aP (w1.heap.size);rw[an.o]at B2;have Y:Xq (∀l,aa [] W2 l->l.cell? ⟨sb,0,none⟩=some (int i64 0)/\l.cell? ⟨sb,1,none⟩=some (int i64 n.length)/\sb<l.heap.size):=fun l q=>by
  have B:=q.get B2 (by simp);exact⟨by rw[ab B];rfl,by rw[ab B];rfl,ah B⟩
 obtain⟨s0,s1,b5⟩:=Y.o W2 (aa.refl _ _);rw[Z.o,an.o];clear B2;have s:Xq (∀l (bd:Int),aa [] w l->FrX [] bd w (returned (tuple #[slice none 0 0,int i64 bd])) l):=fun l bd q=>⟨none,rfl,⟨⟨fun _=>rfl,fun _=>rfl⟩,fun bq e=>by cases e⟩,(fun bq e=>by cases e),q⟩
 cases N:bZ b f with
 | none =>
  have p:Xq _:=JK M x c n cg ca b.length G n.length W2 (T.o.Zbj C.o) a5;have HP:Xq (sF n v f (10,[])):=⟨CG b G,r,A.o,HR.o,by unfold wH;rw[XA (show CG b G f 0 n.length=0 by unfold CG;rw[N])]⟩;clear H;go_wp2_with (go_at_call 146;refine Xx p.o ?_;rintro e3 z ⟨rfl,O⟩);go_ret2;exact⟨(10,[]),HP.o,s.o z 10 ((I.o.trans C.o).trans O)⟩
 | some F =>
  have bs:F<b.length:=XI.1 (XS N);have p:Xq _:=(sM M x c n cg ca b.length G F 0 n.length W2 (T.o.Zbj C.o) V.o.hn a5 bs (by omega) (by omega));have b6:=af.o.two F 0 n.length;have j:Xq (CG b G f 0 n.length=G F 0 n.length):=uC N _ _;have h5:b.length<=b.length*(n.length+1):=ZC _ (ZD _);have b2:F<1000000:=by have:=V.o.hn;omega
  clear h5;have hv:G F 0 n.length=0∨G F 0 n.length=1∨G F 0 n.length=2:=by omega
  rcases hv with hv | hv | hv
  ·rw[hv]at p j;have HP:Xq (sF n v f (10,[])):=⟨CG b G,r,A.o,HR.o,by unfold wH;rw[XA j.o]⟩;clear H;go_wp2_with (go_at_call 146;refine Xx p.o ?_;rintro e3 z ⟨rfl,O⟩);go_ret2;exact⟨(10,[]),HP.o,s.o z 10 ((I.o.trans C.o).trans O)⟩
  ·rw[hv]at p j;have bw:=fun w=>Q1 w M;have K:=HR.o j.o;have bl:Xq (0<(pJ n v (CG b G) r f 0 n.length).length):=by
    cases r with
    | zero=>exact absurd K (Z1 _)
    | succ r=>exact Ue A.o (by omega) (by omega) j.o
   have al:Xq (wH n v (CG b G) r f=if 64<(pJ n v (CG b G) r f 0 n.length).length then(3,[]) else(0,pJ n v (CG b G) r f 0 n.length)):=by
    show _=_;unfold wH;rw[Xz (by rw[j.o];omega),XA j.o]
   have am:Xq (sF n v f (wH n v (CG b G) r f)):=⟨CG b G,r,A.o,HR.o,rfl⟩
   have bo:Xq (∀w0 wb l,aa [] w1 w0->Cg w0 l wb M 0 [] (fun _=>⟨none,0⟩)->Calls prog 147 #[pointer (some ⟨wb,0,none⟩),int i64 F,agg #[int i64 0,int i64 n.length]] l fun e' w'=>QG w0 wb M m 0 [] (pJ n v (CG b G) r f 0 n.length) (fun _=>⟨none,0⟩) l e' w'):=fun w0 wb l q av =>
    Qn w0 wb M x c n b v y D g cg ca G m (V.o.Zbj (I.o.trans q)) (T.o.Zbj q) af.o A.o bk.o bm.o az r f F 0 n.length 0 [] (fun _=>⟨none,0⟩) l N (by omega) (by omega) j.o K av (by omega) (XX _)
   generalize pJ n v (CG b G) r f 0 n.length=t at *;have b4:((iu (some F):Int))=(F:Int):=rfl;clear H K;(go_upto_region 9 with (go_at_call 146;refine Xx p.o ?_;rintro e3 z ⟨rfl,O⟩));have ag:Xq (aa [] w1 z):=C.o.trans O;have bT:=Y.o z O;have L:Xq (Cg z (z.alloc (.cells #[pointer (some ⟨M,0,none⟩),int i64 0,slice none 0 0] 246)) z.heap.size M 0 [] (fun _=>⟨none,0⟩)):=⟨⟨XD _ _,fun i=>by cases i <;> exact XE _ _ _ _,fun _ _ _=>XQ rfl,fun _=>by simp[Hd.Zbx]⟩,bH.alloc _,Xy _,fun k hk=>by obtain⟨i,hi⟩:=hk;simp[Hd.Zbx]at hi⟩
   (go_upto_region 10 with fail);obtain⟨W4,ap⟩:∃W,Xq (z.alloc (.cells #[pointer (some ⟨M,0,none⟩),int i64 0,slice none 0 0] 246)=W):=⟨_,rfl⟩
   rw[ap.o]at L;have a0:=L.o.kp;obtain⟨wb,aq⟩:=aP (z.heap.size);rw[aq.o]at L;rw[ap.o,aq.o];obtain⟨v0,v1,v2⟩:=Y.o W4 (O.trans a0);have bp:Xq _:=bo.o z wb W4 ag.o L.o;(go_upto_region 11 with (go_at_call 147;refine Xx bp.o ?_;rintro e5 S ⟨rfl,n5,E,H5,r1,r2,r3⟩));obtain⟨d0,d1,d2,b0⟩:=r1.cells;have U:Xq (aa [] w S):=(I.o.trans ag.o).trans r1.kp;have R:w.heap.size<=S.heap.size:=U.o.size;have b3:n5<=6400001:=by
    have h1:=r2.d;have h2:pH n5-pH 0<=64:=by unfold pH;split <;> split <;> omega
    have h3:m*(pH n5-pH 0)<=100000*64:=YF az h2;omega
   by_cases ht:64<t.length
   ·have h6:=r2.b (by omega);have br:(n5:Int) > 64:=(by omega);have X:Xq (sF n v f (3,[])):=by
     have:=am.o;rw[al.o,XA ht]at this;exact this
    go_wp2;go_ret2;exact⟨(3,[]),X.o,s.o S 3 U.o⟩
   ·obtain⟨a1,a2⟩:=r2.a (by omega);have br:¬(n5:Int) > 64:=(by omega);have X:Xq (sF n v f (0,t)):=by
     have:=am.o;rw[al.o,Xz ht]at this;exact this
    rw[ZJ]at a2;subst a2;obtain⟨i0,hi,bv,ba,bx⟩:=XV i9;have m1:=fun w=>bY (P:=prog) w 61 9 i0 _ underlying61 hi bv E.length 1 ba (by rw[bx];omega) (by omega);obtain⟨ad,J⟩:∃mc,mc=madeCells (string ⟨#[]⟩).cells (E.length*1):=⟨_,rfl⟩
    have z1:ad.size=E.length*1:=(by rw[J,YJ]);rw[<-J]at m1;clear J;obtain⟨W6,ac⟩:∃W,Xq (S.alloc (.cells ad 9)=W):=⟨_,rfl⟩
    have K6:=dx ac.o;have GW:=dC ac.o;have Q:(prog.info? (aE E).e).map (·.size)=some (aE E).size:=(by simp[aE,hi,ba]);obtain⟨w7,ar,aT,a3,bz⟩:=tU (P:=prog) W6 61 61 3 S.heap.size E.length (H5 0) (aE E) ad 9 underlying61 Q GW ((r1.bag.ZbH 0).Zbj K6) z1 (fun u hu=>by obtain⟨bd,-,rfl⟩:=YN.1 hu;rfl);have b1:(Builtin.copy_ #[61,61] 3 #[slice (some ⟨S.heap.size,0,none⟩) E.length E.length,slice (H5 0).ao E.length (H5 0).cap]).run prog W6=.ok (goInt E.length) w7:=ar;have a4:=bl.o;have bf:Xq (yW w7 (some S.heap.size) E):=⟨⟨(fun e=>by cases e),fun e=>by rw[e]at a4;cases a4⟩,fun bq e=>by cases e;exact aT⟩;have bg:Xq (aa [] w w7):=mW U.o ((K6.mono (by simp)).trans a3) R;have q6:=(r1.Zbj K6).cells;obtain⟨q0,q1,q2,q3⟩:=q6;clear K6 GW aT a3 bz z1 ar Q r1 r2 r3;(go_upto_region 14 with fail);rw[ac.o];go_wp2;go_ret2;exact⟨(0,E),X.o,some S.heap.size,rfl,bf.o,(fun bq e=>by cases e;exact R),bg.o⟩
  ·rw[hv]at p j;have HP:Xq (sF n v f (11,[])):=⟨CG b G,r,A.o,HR.o,by unfold wH;rw[Xz (by rw[j.o];omega),Xz (by rw[j.o];omega)]⟩;clear H;go_wp2_with (go_at_call 146;refine Xx p.o ?_;rintro e3 z ⟨rfl,O⟩);go_ret2;exact⟨(11,[]),HP.o,s.o z 11 ((I.o.trans C.o).trans O)⟩
set_option maxRecDepth 512
theorem Ry(v:dB l c b)(I:b.length<=1073741824) :
  Calls prog 219 #[slice c.ao b.length c.cap,string T] l fun e C=>e=returned (int i64 (iu (bZ b T)))/\C=l:=by
 obtain⟨u,f⟩:=aP (c.ao);rw[f.o];go_enter func219,ntmps219;go_wp2
 go_loopg [5] b.length (fun g i wr=>∃k:Nat,k<=b.length/\g=b.length-k/\i=int i64 k/\Xq (∀i,i<k->((b.getD i ⟨#[]⟩).toList==T.toList)=false)/\wr=l)
 ·exact⟨0,by omega,by omega,rfl,fun i s=>by omega,rfl⟩
 obtain⟨k,H,G,rfl,a,rfl⟩:=hrel;by_cases d:k<b.length
 ·rcases v with A | ⟨g,j,x,t,z,p,q,E,F⟩
  ·rw[A]at d;simp at d
  ·have D:wr.cell? ⟨g,j+k,none⟩=some (string b[k]):=(by rw[ab p];exact q k b[k] (Xv d));obtain rfl:u=some ⟨g,j,none⟩:=f.o.symm.trans z;have m:Xq _:=fO b k d;have B:=ah p;generalize b[k]=y at *;clear p q;cases r:(y.toList==T.toList)
   ·have w:Xq (∀i,i<k+1->((b.getD i ⟨#[]⟩).toList==T.toList)=false):=by
     intro i s;by_cases e:i=k
     ·subst e;rw[m.o];exact r
     ·exact a.o i (by omega)
    clear m;go_wp2;go_roundg (b.length-(k+1))
    ·exact⟨k+1,by omega,rfl,by go_num,w,rfl⟩
    omega
   ·have n:Xq (bZ b T=some k):=jP d (by rw[m.o];exact r) a.o;clear m;go_wp2;go_ret;exact⟨au (by rw[n.o];rfl),rfl⟩
 ·have n:Xq (bZ b T=none):=jz (fun i s=>a.o i (by omega));go_wp2;go_ret;exact⟨au (by rw[n.o];rfl),rfl⟩
theorem Hj(a:m<b.length):kM (b.take (m+1)) T=kM (b.take m) T+(if(b[m].toList==T.toList)=true then 1 else 0):=by
 unfold kM;rw[Yc a,List.countP_append];congr 1;rw[List.countP_singleton]
theorem zaW:kM b T<=b.length:=List.countP_le_length
theorem Rv(v:dB l c b)(J:b.length<=1073741824) :
  Calls prog 218 #[slice c.ao b.length c.cap,string T] l fun e D=>e=returned (int i64 (kM b T))/\D=l:=by
 obtain⟨s,f⟩:=aP (c.ao);rw[f.o];go_enter func218,ntmps218;go_wp2
 go_loopg [5,6] b.length (fun g x i wr=>∃k n:Nat,k<=b.length/\g=b.length-k/\x=int i64 n/\i=int i64 k/\n<=k/\Xq (kM (b.take k) T=n)/\wr=l)
 ·exact⟨0,0,by omega,by omega,rfl,rfl,by omega,rfl,rfl⟩
 obtain⟨k,n,I,H,rfl,rfl,C,d,rfl⟩:=hrel;by_cases a:k<b.length
 ·rcases v with A | ⟨g,m,w,t,z,p,q,F,G⟩
  ·rw[A]at a;simp at a
  ·have E:wr.cell? ⟨g,m+k,none⟩=some (string b[k]):=(by rw[ab p];exact q k b[k] (Xv a));obtain rfl:s=some ⟨g,m,none⟩:=f.o.symm.trans z;have j:Xq _:=Hj b T k a;have B:=ah p;rw[d.o]at j;generalize b[k]=y at *;clear p q;cases r:(y.toList==T.toList)
   ·rw[r,Xz (by simp),YM]at j;go_wp2;go_roundg (b.length-(k+1))
    ·exact⟨k+1,n,by omega,rfl,rfl,by go_num,by omega,j,rfl⟩
    omega
   ·rw[r,XA rfl]at j;go_wp2;go_roundg (b.length-(k+1))
    ·exact⟨k+1,n+1,by omega,rfl,by go_num,by go_num,by omega,j,rfl⟩
    omega
 ·have u:Xq (kM b T=n):=by
   have:=d.o;rw[YV (by omega)]at this;exact this
  go_wp2;go_ret;exact⟨au (by rw[u.o]),rfl⟩
theorem DB(J:dB l D f.Zbe)(L:f.Zbe.length<=1073741824) :
  Calls prog 102 #[du f D g] l fun e A=>∃p:Hd,e=returned (slice p.ao (f.Zbe.drop 1).length p.cap)/\dB A p (f.Zbe.drop 1)/\aa [] l A:=by
 unfold du;by_cases i:f.Zbe.length=0
 ·have y:f.Zbe=[]:=XY i;have r:((f.Zbe.length:Int)==0)=true:=by rw[i];rfl
  go_enter func102,ntmps102;go_wp2;go_ret;exact⟨⟨none,0⟩,by rw[y];rfl,XQ (by rw[y];rfl),(aa.refl _ _).alloc _⟩
 ·have r:((f.Zbe.length:Int)==0)=false:=X6.2 (by omega);obtain⟨K,a⟩:=D;rcases J with C | ⟨d,b,k,t,v,m,w,E,F⟩
  ·rw[C]at i;simp at i
  ·simp only at v E F;subst v;have I:=ah m;have c:Xq ((f.Zbe.drop 1).length=f.Zbe.length-1):=cm (by simp)
   have u:Xq (∀s,aa [] l s->dB s ⟨some ⟨d,b+1,none⟩,a-1⟩ (f.Zbe.drop 1)):=fun s q=>XK ⟨d,b+1,k,t,rfl,q.get m (by simp),fun j x z=>by
    rw[Zb]at z;rw[show b+1+j=b+(1+j) by omega];exact w (1+j) x z,by have:=c.o;show(f.Zbe.drop 1).length<=a-1;omega,by show a-1<=_;omega⟩
   obtain⟨R,B⟩:=aP (f.Zbe.drop 1);rw[B.o]at c u ⊢;rw[c.o];clear w m;by_cases n:a=1
   ·have G:R=[]:=XY (by have:=c.o;omega);subst n;go_enter func102,ntmps102;go_wp2
    all_goals go_ret
    all_goals exact⟨⟨some ⟨d,b,none⟩,0⟩,by rw[show f.Zbe.length-1=0 by omega];rfl,XQ G,(aa.refl _ _).alloc _⟩
   ·have H:¬a-1=0:=(by omega);go_enter func102,ntmps102;go_wp2
    all_goals go_ret
    all_goals exact⟨⟨some ⟨d,b+1,none⟩,a-1⟩,rfl,u.o _ ((aa.refl _ _).alloc _),(aa.refl _ _).alloc _⟩
theorem RU:(prog.info? 287).map (fun i=>(i.zero,i.size,i.bytes))=some (some (agg #[string ⟨#[]⟩,int i64 0]),2,24):=by kernel_rfl
def Jx(w:World)(a:Nat)(vs L:Xs)(k:Nat):Prop:=∃cur:Array Value,w.heap[a]?=some (.cells cur 287)/\cur.size=L.length*2/\(∀i,i<L.length*2->∃u,cur[i]?=some u)/\∀i x,i<k->L[i]?=some x->cur[i*2]?=some (string x)/\cur[i*2+1]?=some (int i64 (iu (bZ vs x)))
theorem Jx.Zbj{a:Nat}(h:Jx d a S I M)(q:aa [] d zf):Jx zf a S I M:=by
 obtain⟨b,c,e⟩:=h;exact⟨b,q.get c (by simp),e⟩
theorem Jx.free(h:Jx d M S I u)(i:Nat):d.frozen? ⟨M,i,none⟩=false:=by
 obtain⟨a,b,-⟩:=h;exact zcW b i
theorem Jx.old(h:Jx d M S I u){i:Nat}(f:i<I.length*2):(∃a,d.cell? ⟨M,i,none⟩=some a)/\M<d.heap.size:=by
 obtain⟨c,b,j,e,k⟩:=h;obtain⟨a,g⟩:=e i f;exact⟨⟨a,by rw[ab b];exact g⟩,ah b⟩
theorem Jx.set(h:Jx d M S I u)(n:u<I.length):Jx ((d.setCell ⟨M,u*2,none⟩ (string I[u])).setCell ⟨M,u*2+1,none⟩ (int i64 (iu (bZ S I[u])))) M S I (u+1):=by
 obtain⟨j,k,a,l,m⟩:=h;refine⟨_,ae (ae k _ _) _ _,by simp[a],fun i g=>?_,fun i x g b=>?_⟩
 ·rw[Yp,Yp];obtain⟨p,o⟩:=l i g;by_cases c:u*2+1=i
  ·rw[XA c,XA (by simp[a];omega)];exact⟨_,rfl⟩
  ·rw[Xz c];by_cases f:u*2=i
   ·rw[XA f,XA (by rw[a];omega)];exact⟨_,rfl⟩
   ·rw[Xz f];exact⟨p,o⟩
 ·rw[Yp,Yp,Yp,Yp];by_cases e:i=u
  ·subst e;rw[Xv n]at b;cases b
   simp[a];omega
  ·rw[Xz (by omega),Xz (by omega),Xz (by omega),Xz (by omega)];exact m i x (by omega) b
theorem Jx.src{a:Nat}(h:Jx d a S I I.length):cW d (some ⟨a,0,none⟩) 2 (ptD S) I:=by
 obtain⟨g,e,m,n,i⟩:=h;intro k x f;obtain⟨j,l⟩:=i k x (XL.1 f).1 f;refine⟨a,rfl,ah e,fun c u b=>?_⟩;rw[ab e]
 match c,b with
 | 0,b=>cases b;exact j
 | 1,b=>cases b;exact l
 | c+2,b=>cases b
set_option maxRecDepth 100000
theorem Id(W:dB l D k)(X:dB l g s)(hl:k.length<=100000)(am:s.length<=100000) :
  Calls prog 192 #[slice D.ao k.length D.cap,slice g.ao s.length g.cap] l fun e r=>∃a,e=returned (slice (some ⟨a,0,none⟩) k.length k.length)/\cW r (some ⟨a,0,none⟩) 2 (ptD s) k/\l.heap.size<=a/\a<r.heap.size/\aa [] l r:=by
 obtain⟨i0,L,O,Q,R⟩:=XV RU;have m2:=fun l=>bY (P:=prog) l 284 287 i0 _ underlying284 L O k.length 2 Q (by rw[R];omega) (by omega);obtain⟨E,z⟩:=aP (madeCells (agg #[string ⟨#[]⟩,int i64 0]).cells (k.length*2));have v:Xq (E.size=k.length*2):=by rw[<-z.o];exact YJ _ _
 rw[z.o]at m2;have F:Xq (Jx (l.alloc (.cells E 287)) l.heap.size s k 0):=⟨E,XD _ _,v.o,fun i V=>⟨E[i]'(by rw[v.o];exact V),Zg _⟩,fun i x V=>by omega⟩;have I:Xq _:=W;have G:Xq (∀x c,aa [] l c->Calls prog 219 #[slice g.ao s.length g.cap,string x] c fun e r=>e=returned (int i64 (iu (bZ s x)))/\r=c):=fun x c q=>Ry g s x c (X.Zbj q) (by omega);clear W X;obtain⟨Y,u⟩:=aP (D.ao);rw[u.o];go_enter func192,ntmps192;go_wp2
 go_loopg [6] k.length (fun j i wr=>∃b:Nat,b<=k.length/\j=k.length-b/\i=int i64 b/\Xq (Jx wr l.heap.size s k b)/\Xq (aa [] l wr))
 ·exact⟨0,by omega,by omega,rfl,F,(aa.refl _ _).alloc _⟩
 obtain⟨b,hk,hg,rfl,C,B⟩:=hrel;rcases kn b k.length with ⟨d,ag⟩ | ⟨d,ai⟩
 ·rcases I.o with h0 | ⟨j,m,J,t,e1,p,T,e4,e5⟩
  ·rw[h0]at d;simp at d
  ·have ad:=ah p;have n:j≠l.heap.size:=(by omega);have K:=B.o.get p (by simp);clear p;have c2:wr.cell? ⟨j,m+b,none⟩=some (string k[b]):=(by rw[ab K];exact T b k[b] (Xv d));obtain rfl:Y=some ⟨j,m,none⟩:=u.o.symm.trans e1;have af:=ah K;have H:Xq _:=(fun c (q:aa [] wr c)=>G.o k[b] c (B.o.trans q));have f:=C.o;obtain⟨⟨u0,t0⟩,ac⟩:=f.old (i:=b*2) (by omega);obtain⟨⟨u1,t1⟩,-⟩:=f.old (i:=b*2+1) (by omega);have f0:=f.free (b*2);have f1:=f.free (b*2+1);have w:Xq (∀c,aa [] wr c->Jx ((c.setCell ⟨l.heap.size,b*2,none⟩ (string k[b])).setCell ⟨l.heap.size,b*2+1,none⟩ (int i64 (iu (bZ s k[b])))) l.heap.size s k (b+1)/\aa [] l ((c.setCell ⟨l.heap.size,b*2,none⟩ (string k[b])).setCell ⟨l.heap.size,b*2+1,none⟩ (int i64 (iu (bZ s k[b]))))):=fun c q=>⟨(C.o.Zbj q).set d,((B.o.trans q).sr1 (Xy _) _).sr1 (Xy _) _⟩
   generalize k[b]=y at *;generalize iu (bZ s y)=S at *;have al:((wr.setCell ⟨l.heap.size,b*2,none⟩ (string y)).setCell ⟨l.heap.size,b*2+1,none⟩ (int i64 S)).drew.cell? ⟨j,m+b,none⟩=some (string y):=by
    have hb:((wr.setCell ⟨l.heap.size,b*2,none⟩ (string y)).setCell ⟨l.heap.size,b*2+1,none⟩ (int i64 S)).drew.heap[j]?=wr.heap[j]?:=by
     show((wr.setCell ⟨l.heap.size,b*2,none⟩ (string y)).setCell ⟨l.heap.size,b*2+1,none⟩ (int i64 S)).heap[j]?=_
     rw[XN _ _ _ _ n,XN _ _ _ _ n]
    rw[XJ hb];exact c2
   clear K T f;(go_upto_region 5 with fail);go_region_held3 (fun r=>r.cell? ⟨j,m+b,none⟩=some (string y)) (go_keep) ((go_at_call 219;refine Xx (H.o _ (by exact bH.drew)) ?_;rintro e6 w6 ⟨rfl,A⟩;rw[A];clear A));go_wp2;go_roundg (k.length-(b+1))
   ·exact⟨b+1,by omega,rfl,by go_num,(w.o wr (aa.refl _ _)).1.Zbj bH.drew,(w.o wr (aa.refl _ _)).2.drew⟩
   omega
 ·have Z:Xq (cW wr (some ⟨l.heap.size,0,none⟩) 2 (ptD s) k):=by
   have M:b=k.length:=(by omega);have U:=C.o;rw[M]at U;exact U.src
  have N:l.heap.size<wr.heap.size:=by obtain⟨J,h1,-⟩:=C.o;exact ah h1
  go_wp2;go_ret;exact⟨l.heap.size,rfl,Z.o,Xy _,N,B.o⟩
theorem dQ.viewN{l:List St}{H:Nat->Hd}(h:dQ d M u l H)(n:Nat)(a:n<l.length):dB d (H (10+2*n)) l[n].Zbe:=(h.Zbv.syms n l[n] (Xv a)).view
def qK(l:List St)(L:Xs)(h:Nat):Bool:=((di l h).Zby==2)&&(kM L (aB (di l h))==1)
theorem Ej(l:List St)(H:Nat->Hd)(F z:Hd)(a:Xu)(L:Xs)(w:World)(h:dQ w y4 m l H)(R:n8 w F.ao a)(S:dB w z L)(hl:L.length<=100000)(ai:a.length<=100000)(b:∀x∈a,x<l.length)(T:∀s∈l,s.Zbe.length<=100000) :
  Calls prog 191 #[pointer (some ⟨y4,m,none⟩),slice F.ao a.length F.cap,slice z.ao L.length z.cap] w fun e y=>e=returned (bool (a.all (qK l L)))/\aa [] w y:=by
 have K:Xq (∀n (o:n<l.length) c,aa [] w c->Calls prog 96 #[pointer (some ⟨y4,m,none⟩),int i64 n] c fun e y=>e=returned (du l[n] (H (10+2*n)) (H (11+2*n)))/\aa [] c y):=fun n o c q=>bu y4 m n l H c (h.Zbj q) o;have M:Xq (∀n (o:n<l.length) c,aa [] w c->Calls prog 188 #[du l[n] (H (10+2*n)) (H (11+2*n))] c fun e y=>e=returned (string (aB l[n]))/\aa [] c y):=fun n o c q=>jD l[n] _ _ c ((h.Zbj q).viewN n o) (by have:=T _ (XM o);omega);have J:Xq (∀x c,aa [] w c->Calls prog 218 #[slice z.ao L.length z.cap,string x] c fun e y=>e=returned (int i64 (kM L x))/\y=c):=fun x c q=>Rv z L x c (S.Zbj q) (by omega);have W:Xq _:=R;have I:Xq _:=b;clear h R S b T;obtain⟨V,A⟩:=aP (F.ao);rw[A.o];go_enter func191,ntmps191;go_wp2
 go_loopg [7] a.length (fun g i wr=>∃k:Nat,k<=a.length/\g=a.length-k/\i=int i64 k/\Xq ((a.take k).all (qK l L)=true)/\Xq (aa [] w wr))
 ·exact⟨0,by omega,by omega,rfl,rfl,aa.refl _ _⟩
 obtain⟨k,hk,hg,rfl,u,j⟩:=hrel;rcases kn k a.length with ⟨b,ad⟩ | ⟨b,af⟩
 ·obtain⟨g,X,ac,c2⟩:=(n8.Zbj W.o j.o) k a[k] (Xv b);obtain rfl:V=some ⟨g,0,none⟩:=A.o.symm.trans X;have o:=I.o _ (XM b);have C:Xq ((a.take (k+1)).all (qK l L)=((a.take k).all (qK l L)&&qK l L a[k])):=by
   show _=_;rw[Yc b,List.all_append];simp
  have d:Xq (qK l L a[k]=false->a.all (qK l L)=false):=fun q=>by
   rw[ZK];exact⟨a[k],XM b,by rw[q];simp⟩
  have P:Xq (qK l L a[k]=((l[a[k]].Zby==2)&&(kM L (aB l[a[k]])==1))):=cm (by unfold qK;rw[gW o]);have p:Xq _:=K.o _ o wr j.o;have v:Xq _:=M.o _ o;have ag:=zaW L (aB l[a[k]]);rw[P.o]at C d;rw[u.o,Y0]at C;unfold du at p v;generalize a[k]=al at *;generalize l[al]=s at *;clear P;cases r:(s.Zby==2)
  ·have N:(s.Zby != 2)=true:=(by simp[bne,r]);rw[r,Zz]at d;have B:Xq _:=d.o rfl;go_wp2_with (go_at_call 96;refine Xx p.o ?_;rintro Q U ⟨rfl,t⟩);go_ret;exact⟨aH B.o.symm,(j.o.trans t).alloc _⟩
  ·have N:(s.Zby != 2)=false:=(by simp[bne,r]);rw[r,Y0]at C d;have D:Xq _:=J.o (aB s);cases G:(kM L (aB s)==1)
   ·rw[G]at d;have B:Xq _:=d.o rfl;have O:((kM L (aB s):Int) != 1)=true:=by
     have:kM L (aB s)≠1:=(by simpa using G);simp;omega
    generalize kM L (aB s)=oc at *;go_wp2_with (first | (go_at_call 96;refine Xx p.o ?_;rintro Q U ⟨rfl,t⟩) | (go_at_call 188;refine Xx (v.o _ (by exact(j.o.trans t).alloc _)) ?_;rintro Y w3 ⟨rfl,E⟩) | (go_at_call 218;refine Xx (D.o _ (by exact((j.o.trans t).alloc _).trans E)) ?_;rintro Z w4 ⟨rfl,f⟩;rw[f];clear f));go_ret;exact⟨aH B.o.symm,((j.o.trans t).alloc _).trans E⟩
   ·rw[G]at C;have O:((kM L (aB s):Int) != 1)=false:=by
     have:kM L (aB s)=1:=(by simpa using G);rw[this];rfl
    generalize kM L (aB s)=oc at *;go_wp2_with (first | (go_at_call 96;refine Xx p.o ?_;rintro Q U ⟨rfl,t⟩) | (go_at_call 188;refine Xx (v.o _ (by exact(j.o.trans t).alloc _)) ?_;rintro Y w3 ⟨rfl,E⟩) | (go_at_call 218;refine Xx (D.o _ (by exact((j.o.trans t).alloc _).trans E)) ?_;rintro Z w4 ⟨rfl,f⟩;rw[f];clear f));go_roundg (a.length-(k+1))
    ·exact⟨k+1,by omega,rfl,by go_num,C,((j.o.trans t).alloc _).trans E⟩
    omega
 ·have B:Xq (a.all (qK l L)=true):=by
   have:=u.o;rw[YV (by omega)]at this;exact this
  go_wp2;go_ret;exact⟨aH B.o.symm,j.o⟩
def N8(codes:Xs)(L:List oy)(H:Nat->Hd):List Value:=[slice (H 0).ao codes.length (H 0).cap,slice (H 1).ao L.length (H 1).cap]
def sg(L:List oy):eD:=lu 289 4 Xi L
def N9(codes:Xs)(L:List oy):Nat->eD
 | 0=>aE codes
 | 1=>sg L
 | _+2=>aE []
theorem Oa:∀j,j≠0->N9 s zt j=N9 k zt j:=by
 intro j a
 match j,a with
 | 0,a=>exact absurd rfl a
 | 1,_=>rfl
 | j+2,_=>rfl
theorem GD:∀j,j≠1->N9 b zt j=N9 b y j:=by
 intro j a
 match j,a with
 | 0,_=>rfl
 | 1,a=>exact absurd rfl a
 | j+2,_=>rfl
theorem cW.keptQ{α:Type}{f:α->List Value}{L:List α}(h:cW d y5 M f L)(k:fB y2 d zf)(i:∀g,y5=some ⟨g,0,none⟩->¬y2 g):cW zf y5 M f L:=by
 intro j x m;obtain⟨g,e,a,b⟩:=h j x m;have l:=k.block g a (i g e);exact⟨g,e,XB a k.size,fun c u n=>by rw[XJ l];exact b c u n⟩
theorem n8.keptQ{L:Xu}(h:n8 d y5 L)(k:fB y2 d zf)(c:∀g,y5=some ⟨g,0,none⟩->¬y2 g):n8 zf y5 L:=by
 intro j x i;obtain⟨g,e,a,b⟩:=h j x i;have f:=k.block g a (c g e);exact⟨g,e,XB a k.size,by rw[XJ f];exact b⟩
theorem p9.keptQ(h:p9 d S t y3)(k:fB y2 d zf)(a:¬y2 t.ap)(b:∀g,t.ag=some ⟨g,0,none⟩->¬y2 g):p9 zf S t y3 :=
 ⟨h.lab,h.cod,h.np,h.parts.keptQ k (fun g e=>by cases e;exact a),h.ng,h.len,h.gaps.keptQ k b,h.typ⟩
theorem E5{p:Nat->Bool}{n:Nat}(h:(List.range n).find? p=some M):∀i,i<M->p i=false:=by
 induction n with
 | zero=>simp at h
 | succ n b =>
  intro i a;rw[YG,List.find?_append]at h;cases e:(List.range n).find? p with
  | some z=>rw[e]at h;cases h;exact b e i a
  | none =>
   rw[e]at h;have c:M=n:=by
    simp only[Option.none_or,List.find?_cons,List.find?_nil]at h;split at h
    ·cases h;rfl
    ·cases h
   have:=YD.1 e i (XI.2 (by omega));simpa using this
def Ns(codes c2:Xs):Prop:=∀c k,bZ codes c=some k->bZ c2 c=some k
theorem Ns.refl:Ns s s:=fun _ _ h=>h
theorem Ns.trans{c:Xs}(h:Ns S I)(g:Ns I c):Ns S c:=fun x k q=>g x k (h x k q)
theorem Ap:Ns b (b++[T]):=fun c k h=>by
 unfold bZ at h ⊢;have d:=XI.1 (XS h);have e:=Zd h;refine jP (by rw[XC];omega) ?_ (fun i a=>?_)
 ·rw[Xw,XP d,<-Xw];exact e
 ·rw[Xw,XP (by omega),<-Xw];exact E5 h i a
theorem Ii(h:bZ b T=none):bZ (b++[T]) T=some b.length:=by
 refine jP (by simp) ?_ (fun i a=>?_)
 ·rw[Xw,XO (Xy _),YA];simp
 ·rw[Xw,XP a,<-Xw];have:=YD.1 h i (XI.2 a);simpa using this
theorem p9.grow(h:p9 d S t y3)(g:Ns S I):p9 d I t y3:=⟨h.lab,g _ _ h.cod,h.np,h.parts,h.ng,h.len,h.gaps,fun v a=>g _ _ (h.typ v a)⟩
structure pY(w0 w:World)(gm:Nat)(tcs codes:Xs)(Ps:List dZ)(L:List oy)(H:Nat->Hd):Prop where
 bag:aO w gm 235 (N8 codes L H) (N9 codes L) H
 kp:aa [] w0 w
 lo:w0.heap.size<=gm
 hi:∀k,eG H k->w0.heap.size<=k
 len:L.length=Ps.length
 each:∀(n:Nat) (p:oy) (P:dZ),L[n]?=some p->Ps[n]?=some P->p9 w codes p P
 far:∀p∈L,(p.ap≠gm/\¬eG H p.ap/\p.ap<w.heap.size)/\∀g,p.ag=some ⟨g,0,none⟩->g≠gm/\¬eG H g/\g<w.heap.size
 dist:vK codes
 sub:∀c∈codes,c∈tcs
section
variable {w0 w w':World} {gm:Nat} {tcs codes:Xs} {Ps:List dZ} {L:List oy} {H H':Nat->Hd}
theorem pY.Zbj(h:pY w0 w gm tcs codes Ps L H)(k:aa [] w w'):pY w0 w' gm tcs codes Ps L H :=
 ⟨h.bag.Zbj k,h.kp.trans k,h.lo,h.hi,h.len,fun n p P b c=>(h.each n p P b c).Zbj k,fun p a=>⟨⟨(h.far p a).1.1,(h.far p a).1.2.1,XB (h.far p a).1.2.2 k.size⟩,fun g e=>⟨((h.far p a).2 g e).1,((h.far p a).2 g e).2.1,XB ((h.far p a).2 g e).2.2 k.size⟩⟩,h.dist,h.sub⟩
theorem pY.turned(h:pY w0 w gm tcs codes Ps L H)(t:aw gm w H w' H')(g:aO w' gm 235 (N8 S L H') (N9 S L) H')(d:Ns codes S)(j:vK S)(m:∀c∈S,c∈tcs):pY w0 w' gm tcs S Ps L H':=by
 refine⟨g,aa.ofP h.kp t.1 (fun k a=>?_),h.lo,fun k a=>?_,h.len,fun n p P b i=>?_,fun p l=>?_,j,m⟩
 ·rcases a with rfl | a
  ·exact h.lo
  ·exact h.hi k a
 ·rcases t.2 k a with q | q
  ·exact h.hi k q
  ·exact XF h.kp.size q
 ·have f:=h.far p (YH b);refine((h.each n p P b i).keptQ t.1 (fun q=>?_) (fun g e q=>?_)).grow d
  ·rcases q with q | q
   ·exact f.1.1 q
   ·exact f.1.2.1 q
  ·rcases q with q | q
   ·exact(f.2 g e).1 q
   ·exact(f.2 g e).2.1 q
 ·have f:=h.far p l;exact⟨⟨f.1.1,t.fresh _ f.1.2.2 f.1.2.1,XB f.1.2.2 t.1.size⟩,fun g e=>⟨(f.2 g e).1,t.fresh _ (f.2 g e).2.2 (f.2 g e).2.1,XB (f.2 g e).2.2 t.1.size⟩⟩
end
theorem Je{t:Xr}(h:vK S)(c:bZ S t=none):vK (S++[t]):=by
 intro i j a b;rw[XC]at b;replace b:j<S.length+1:=b;rw[Xw,XP (by omega),<-Xw];by_cases e:j<S.length
 ·rw[Xw (l:=S++[t]),XP e,<-Xw];exact h i j a e
 ·rw[Xw (l:=S++[t]),XO (by omega),show j-S.length=0 by omega];have:=YD.1 c i (XI.2 (by omega));simpa using this
def zB(w0:World)(gm:Nat)(tcs codes:Xs)(Ps:List dZ)(L:List oy)(H:Nat->Hd)(t:Xr)(w:World)(e:Ending)(w':World):Prop:=∃c2 H' k,e=returned (int i64 ((k:Nat):Int))/\bZ c2 t=some k/\pY w0 w' gm tcs c2 Ps L H'/\aw gm w H w' H'/\Ns codes c2
theorem xA(h:pY o l x n b v y N)(X:T∈n)(hl:b.length<=100000) :
  Calls prog 189 #[pointer (some ⟨x,0,none⟩),string T] l fun e Z=>zB o x n b v y N T l e Z:=by
 have L:l.cell? ⟨x,0,none⟩=some (slice (N 0).ao b.length (N 0).cap):=by rw[h.bag.cell];rfl
 have D:=h.bag.lt;have m:Xq _:=(CY x b (N 0) T l L D (aO.ZbH h.bag 0).view (by omega));have HB:Xq _:=h;cases p:bZ b T with
 | some k =>
  have hk:k<b.length:=XI.1 (XS p);rw[p]at m;have z:Xq (zB o x n b v y N T l (returned (int i64 (k:Int))) l):=⟨b,N,k,rfl,p,h,aw.refl _ _ _,Ns.refl _⟩;have E:((iu (some k):Int))=(k:Int):=rfl;clear h;go_enter func189,ntmps189;go_wp2_with (go_at_call 145;refine Xx m.o ?_;rintro Q K ⟨rfl,a⟩;rw[a];clear a);go_ret;exact z.o
 | none =>
  rw[p]at m;obtain⟨Y,W,G,H,I⟩:=XV i9;have B:=aO.Zbj h.bag ((aa.refl [] l).alloc (.cells #[string T] 9));have i:=aO.ZbH B 0;have C:=h.bag.free 0;have z:Xq (∀w r,aO w x 235 (N8 (b++[T]) y r) (N9 (b++[T]) y) r->aw x (l.alloc (.cells #[string T] 9)) N w r->zB o x n b v y N T l (returned (int i64 (b.length:Int))) w):=fun w r R S=>by
   have O:=S.first ((aa.refl [] l).alloc (.cells #[string T] 9));refine⟨b++[T],r,b.length,rfl,Ii b T p,h.turned O R (Ap b T) (Je h.dist p) (fun c U=>?_),O,Ap b T⟩;rcases X9.1 U with q | q
   ·exact h.sub c q
   ·rw[XH.1 q];exact X
  have E:((iu none:Int))=-1:=rfl;clear h;go_enter func189,ntmps189;go_wp2_with (first | (go_at_call 145;refine Xx m.o ?_;rintro Q K ⟨rfl,a⟩;rw[a];clear a) | (at_builtin;refine aR _ rfl (.tmp 16) (.tmp 18) 61 rfl Y (string ⟨#[]⟩) 16 (N 0) (aE b) underlying61 W G H I rfl XR rfl i ⟨l.heap.size,0,none⟩ 1 1 [string T] rfl rfl ?c1 ?M XR ?c3 ?c4 ?_))
  case c1=>intro j u t;match j,t with | 0,t=>simp at t;subst t;simp[Addr.add]
  case M=>intro u P;simp at P;subst P;rfl
  case c3=>simp only[aE];unfold maxLen;omega
  case c4=>simp only[aE];omega
  ·intro g d K a s f;obtain⟨k0,f0,A⟩:=aO.app B (cs':=N8 (b++[T]) y (gj N 0 ⟨some ⟨g,0,none⟩,d⟩)) (rows':=N9 (b++[T]) y) 0 0 g d (b.length+1) _ a (dy b T) s (by simpa using f) (Oa b _ y) _ rfl (by simp[N8,gj]);have J:=A.o.1;have M:(K.setCell ⟨x,0,none⟩ (slice (some ⟨g,0,none⟩) (b.length+1) d)).cell? ⟨x,0,none⟩=some (slice (some ⟨g,0,none⟩) (b.length+1) d):=by
    rw[J.cell];simp[N8,gj]
   have V:=J.lt;clear B i a s f C J L;have F:wrap64 (b.length:Int)=b.length:=(by unfold wrap64;omega);go_wp2;go_ret;show zB o x n b v y N T l (returned (int i64 (wrap64 (b.length:Int)))) _;rw[F];exact z.o _ _ A.o.1 A.o.2
section
variable {w0 w w':World} {gm:Nat} {tcs codes:Xs} {Ps:List dZ} {L:List oy} {H H':Nat->Hd}
theorem pY.push(h:pY w0 w gm tcs codes Ps L H)(r:p9 w codes t y3)(o:(t.ap≠gm/\¬eG H t.ap/\t.ap<w.heap.size)/\∀g,t.ag=some ⟨g,0,none⟩->g≠gm/\¬eG H g/\g<w.heap.size)(a:aw gm w H w' H')(g:aO w' gm 235 (N8 codes (L++[t]) H') (N9 codes (L++[t])) H'):pY w0 w' gm tcs codes (Ps++[y3]) (L++[t]) H':=by
 have c:∀q∈L++[t],(q.ap≠gm/\¬eG H q.ap/\q.ap<w.heap.size)/\∀g,q.ag=some ⟨g,0,none⟩->g≠gm/\¬eG H g/\g<w.heap.size:=fun q i=>by
  rcases X9.1 i with e | e
  ·exact h.far q e
  ·rw[XH.1 e];exact o
 have j:∀(q:oy) (Q:dZ),q∈L++[t]->p9 w codes q Q->p9 w' codes q Q:=fun q Q i p=>by
  have f:=c q i;refine p.keptQ a.1 (fun z=>?_) (fun g e z=>?_)
  ·rcases z with z | z
   ·exact f.1.1 z
   ·exact f.1.2.1 z
  ·rcases z with z | z
   ·exact(f.2 g e).1 z
   ·exact(f.2 g e).2.1 z
 refine⟨g,aa.ofP h.kp a.1 (fun k d=>?_),h.lo,fun k d=>?_,by rw[XC,XC,h.len];rfl,fun n q Q b l=>?_,fun q i=>?_,h.dist,h.sub⟩
 ·rcases d with rfl | d
  ·exact h.lo
  ·exact h.hi k d
 ·rcases a.2 k d with z | z
  ·exact h.hi k z
  ·exact XF h.kp.size z
 ·refine j q Q (YH b) ?_;by_cases e:n<L.length
  ·rw[XP e]at b;rw[XP (by rw[<-h.len];exact e)]at l;exact h.each n q Q b l
  ·have m:=(XL.1 b).1;rw[XC]at m;replace m:n<L.length+1:=m;rw[XO (by omega),show n-L.length=0 by omega]at b;rw[XO (by rw[<-h.len];omega),show n-Ps.length=0 by rw[<-h.len];omega]at l;cases b
   cases l
   exact r
 ·have f:=c q i;exact⟨⟨f.1.1,a.fresh _ f.1.2.2 f.1.2.1,XB f.1.2.2 a.1.size⟩,fun g e=>⟨(f.2 g e).1,a.fresh _ (f.2 g e).2.2 (f.2 g e).2.1,XB (f.2 g e).2.2 a.1.size⟩⟩
theorem pY.cells(h:pY w0 w gm tcs codes Ps L H):w.cell? ⟨gm,0,none⟩=some (slice (H 0).ao codes.length (H 0).cap)/\w.cell? ⟨gm,1,none⟩=some (slice (H 1).ao L.length (H 1).cap)/\gm<w.heap.size:=by
 refine⟨?_,?_,h.bag.lt⟩ <;> (rw[h.bag.cell];rfl)
end
theorem RT:(prog.info? 289).map (fun i=>(i.zero,i.size,i.bytes))=some (some (agg #[string ⟨#[]⟩,int i64 0,slice none 0 0,slice none 0 0]),4,72):=by kernel_rfl
theorem MP:∀u∈Xi y6,u.oneCell'=true:=by
 intro u a;simp only[Xi,List.mem_cons,List.not_mem_nil,or_false]at a;rcases a with rfl | rfl | rfl | rfl <;> rfl
theorem Bc:(⟨(sg zt).e,(sg zt).size,(sg zt).n+1,(sg zt).xs++Xi y6⟩:eD)=sg (zt++[y6]):=fT _ _ _ _ _
theorem Q0(k:Int)(a:Xt)(n c:Nat):(Instr.build 289 #[(0,string T),(1,int i64 k),(2,slice a n c)]).run prog o=.ok (agg #[string T,int i64 k,slice a n c,slice none 0 0]) o :=
 Za9 o 289 _ _ (by kernel_rfl)
def GbS(w0:World)(gm:Nat)(tcs:Xs)(Ps:List dZ)(P:dZ)(H:Nat->Hd)(w:World)(e:Ending)(w':World):Prop:=e=returned (tuple #[])/\∃c2 L2 H2,pY w0 w' gm tcs c2 (Ps++[P]) L2 H2/\aw gm w H w' H2
theorem yX(h:pY o l x n b v y N)(hv:dB o D f.Zbe)(hl:f.Zbe.length<=100000)(ht:aZ f∈n)(be:b.length<=100000)(bx:y.length<=100000) :
  Calls prog 142 #[pointer (some ⟨x,0,none⟩),du f D g] l fun e T=>GbS o x n v (VG f) N l e T:=by
 have M:Xq (∀a,aa [] o a->Calls prog 188 #[du f D g] a fun e T=>e=returned (string (aB f))/\aa [] a T):=fun a q=>jD f D g a (hv.Zbj q) (by omega);have L:Xq (∀a,aa [] o a->Calls prog 190 #[du f D g] a fun e T=>e=returned (string (aZ f))/\aa [] a T):=fun a q=>rO f D g a (hv.Zbj q) (by omega);have a3:Xq (∀a,pY o a x n b v y N->Calls prog 189 #[pointer (some ⟨x,0,none⟩),string (aZ f)] a fun e T=>zB o x n b v y N (aZ f) a e T):=fun a O=>xA o x n b v y N (aZ f) a O ht be;obtain⟨i0,bg,bl,bm,bo⟩:=XV RU;have m2:=fun l=>bY (P:=prog) l 284 287 i0 _ underlying284 bg bl 1 2 bm (by rw[bo];omega) (by omega);obtain⟨w,ar⟩:=aP (madeCells (agg #[string ⟨#[]⟩,int i64 0]).cells (1*2));have al:Xq (w.size=1*2):=by rw[<-ar.o];exact YJ _ _
 rw[ar.o]at m2;have m3:∀l,(Instr.makeSlice 284 (int i64 1) (int i64 1)).run prog l=.ok (slice (some ⟨l.heap.size,0,none⟩) 1 1) (l.alloc (.cells w 287)):=fun l=>m2 l;clear m2;obtain⟨W,HW⟩:=aP (l.alloc (.cells #[int i64 f.Zby,string f.Zbz,slice D.ao f.Zbe.length D.cap,slice g.ao f.Zbp.length g.cap,string f.ZbC.ZbD,int i64 f.ZbC.ZbE,int i64 f.ZbC.ZbF,int i64 f.til] 158));have HB:Xq _:=h;clear h;unfold du at M L ⊢;go_enter func142,ntmps142;go_upto_region 1 with fail
 rw[HW.o];have BW:=dC HW.o;have kW:=dx HW.o;have S:aa [] W (W.alloc (.cells w 287)):=bH.alloc _;have BA:(W.alloc (.cells w 287)).heap[W.heap.size]?=some (.cells w 287):=XD _ _;have cb:l.heap.size<W.heap.size:=ah BW;obtain⟨i,I⟩:=aP (l.heap.size);have bz:=HB.o.bag.lt;have a6:Xq _:=fun k (q:eG N k)=>HB.o.bag.inlt q;have J:Xq (∀a,aa [] W a->(a.cell? ⟨i,0,none⟩=some (int i64 f.Zby)/\a.cell? ⟨i,1,none⟩=some (string f.Zbz)/\a.cell? ⟨i,2,none⟩=some (slice D.ao f.Zbe.length D.cap)/\a.cell? ⟨i,3,none⟩=some (slice g.ao f.Zbp.length g.cap))/\(a.cell? ⟨i,4,none⟩=some (string f.ZbC.ZbD)/\a.cell? ⟨i,5,none⟩=some (int i64 f.ZbC.ZbE)/\a.cell? ⟨i,6,none⟩=some (int i64 f.ZbC.ZbF)/\a.cell? ⟨i,7,none⟩=some (int i64 f.til))/\i<a.heap.size):=fun a q=>by
  rw[<-I.o];have B:=q.get BW (by simp);refine⟨⟨?_,?_,?_,?_⟩,⟨?_,?_,?_,?_⟩,ah B⟩ <;> (rw[ab B];rfl)
 have ba:Xq (∀a,aa [] (W.alloc (.cells w 287)) a->∃u0 u1,a.cell? ⟨W.heap.size,0,none⟩=some u0/\a.cell? ⟨W.heap.size,1,none⟩=some u1/\a.frozen? ⟨W.heap.size,0,none⟩=false/\a.frozen? ⟨W.heap.size,1,none⟩=false/\W.heap.size<a.heap.size):=fun a q=>by
  have B:=q.get BA (by simp);have hm:=al.o;exact⟨w[0]'(by omega),w[1]'(by omega),by rw[ab B];exact Zg _,by rw[ab B];exact Zg _,zcW B _,zcW B _,ah B⟩
 have a5:Xq (∀a,aa [] (W.alloc (.cells w 287)) a->∃r,((a.setCell ⟨W.heap.size,0,none⟩ (string (aB f))).setCell ⟨W.heap.size,1,none⟩ (int i64 (-1))).heap[W.heap.size]?=some (.cells r 287)/\r[0]?=some (string (aB f))/\r[1]?=some (int i64 (-1))):=fun a q=>by
  have B:=q.get BA (by simp);have hm:=al.o;refine⟨_,ae (ae B _ _) _ _,?_,?_⟩
  ·rw[Yp,Yp];simp[hm]
  ·rw[Yp];simp[hm]
 obtain⟨⟨z0,z1,z2,z3⟩,⟨z4,z5,z6,z7⟩,z8⟩:=J.o _ S;have ai:Xq _:=kW;have bd:Xq _:=(fun a (q:aa [] W a)=>M.o a ((HB.o.kp.trans kW).trans q));have bc:Xq _:=(fun a (q:aa [] W a)=>L.o a ((HB.o.kp.trans kW).trans q));have af:Xq _:=S;rw[I.o];generalize hvs:aB f=vs at *;clear BW BA M L kW S;go_upto_region 3 with (go_at_call 188;refine Xx (bd.o _ af.o) ?_;rintro e2 w2 ⟨rfl,k2⟩;obtain⟨u0,u1,g0,g1,f0,f1,la⟩:=ba.o w2 k2)
 obtain⟨V,aq⟩:=aP ((w2.setCell ⟨W.heap.size,0,none⟩ (string vs)).setCell ⟨W.heap.size,1,none⟩ (int i64 (-1)));have d:Xq (aa [] W V):=by
  show aa [] W V;rw[<-aq.o];exact((af.o.trans k2).sr1 (Xy _) _).sr1 (Xy _) _
 have H:Xq _:=a5.o w2 k2;rw[aq.o]at H ⊢;have a2:Xq (pY o V x n b v y N):=HB.o.Zbj (ai.o.trans d.o);obtain⟨⟨b0,b1,b2,b3⟩,⟨b4,b5,b6,b7⟩,b8⟩:=J.o _ d.o;have a4:Xq _:=(fun a (q:aa [] V a)=>a3.o a (a2.o.Zbj q));generalize htc:aZ f=tc at *;clear u0 u1 g0 g1 f0 f1 k2 z0 z1 z2 z3 z4 z5 z6 z7 z8 m3;go_upto_region 4 with (first | (go_at_call 190;refine Xx (bc.o _ d.o) ?_;rintro e4 w4 ⟨rfl,Y⟩) | (go_at_call 189;refine Xx (a4.o _ Y) ?_;rintro e5 c ⟨C,U,k,rfl,bk,s,t,bf⟩))
 have bT:W.heap.size<=V.heap.size:=d.o.size;have ca:V.heap.size<=w4.heap.size:=Y.size;have A:∀q,l.heap.size<=q->q<w4.heap.size->c.heap[q]?=w4.heap[q]?/\¬eG U q:=fun q h1 h2=>by
  have hn:¬eG N q:=fun z=>by have:=a6.o q z;omega
  exact⟨t.1.block q h2 (fun z=>z.elim (fun e=>by omega) hn),t.fresh q h2 hn⟩
 obtain⟨r,B3,y0,y1⟩:=H.o;have bq:=ah B3;have B5:c.heap[W.heap.size]?=some (.cells r 287):=by
  rw[(A W.heap.size (by omega) (by omega)).1];exact Y.get B3 (by simp)
 have av:i<w4.heap.size:=by omega
 have c1:c.cell? ⟨i,1,none⟩=some (string f.Zbz):=by
  rw[XJ (A i (by rw[I.o];exact Xy _) av).1];exact(J.o w4 (d.o.trans Y)).1.2.1
 have br:i<c.heap.size:=XB av t.1.size;obtain⟨-,d1,bp⟩:=s.cells;have bw:=s.bag.free 1;obtain⟨p,HP⟩:∃p:oy,Xq (p=⟨f.Zbz,k,W.heap.size,1,none,[]⟩):=⟨_,rfl⟩
 have an:Xq (p9 c C p (VG f)):=by
  rw[HP.o];refine⟨rfl,?_,rfl,?_,rfl,rfl,(fun k cc h=>by cases h),fun cd h=>absurd h (Zh _)⟩
  ·show bZ C (aZ f)=some k;rw[htc];exact bk
  ·intro m bs hx;have az:([aB f]:Xs)[m]?=some bs:=hx;have hm:m=0:=by
    have:=(XL.1 az).1;simpa using this
   subst hm;have aS:aB f=bs:=by simpa using az
   rw[hvs]at aS;subst aS;refine⟨W.heap.size,rfl,ah B5,fun q u R=>?_⟩;rw[ab B5]
   match q,R with
   | 0,R=>cases R;exact y0
   | 1,R=>cases R;exact y1
   | q+2,R=>cases R
 have ad:Xq ((p.ap≠x/\¬eG U p.ap/\p.ap<c.heap.size)/\∀O,p.ag=some ⟨O,0,none⟩->O≠x/\¬eG U O/\O<c.heap.size):=by
  rw[HP.o];exact⟨⟨by show W.heap.size≠x;omega,(A W.heap.size (by omega) (by omega)).2,ah B5⟩,fun O e=>by cases e⟩
 have K:Xq (Xi p=[string f.Zbz,int i64 k,slice (some ⟨W.heap.size,0,none⟩) 1 1,slice none 0 0]):=by rw[HP.o];rfl
 obtain⟨iS,bj,aT,a0,a1⟩:=XV RT;have hD:Xq _:=aO.Zbj s.bag ((aa.refl [] c).alloc (.cells #[string f.Zbz,int i64 k,slice (some ⟨W.heap.size,0,none⟩) 1 1,slice none 0 0] 289)).drew;have s2:Xq (∀j u,([string f.Zbz,int i64 k,slice (some ⟨W.heap.size,0,none⟩) 1 1,slice none 0 0]:List Value)[j]?=some u->(c.alloc (.cells #[string f.Zbz,int i64 k,slice (some ⟨W.heap.size,0,none⟩) 1 1,slice none 0 0] 289)).drew.cell? ((⟨c.heap.size,0,none⟩:Addr).add j)=some u):=by
  intro j u hj;have hk:(c.alloc (.cells #[string f.Zbz,int i64 k,slice (some ⟨W.heap.size,0,none⟩) 1 1,slice none 0 0] 289)).drew.heap[c.heap.size]?=some (.cells #[string f.Zbz,int i64 k,slice (some ⟨W.heap.size,0,none⟩) 1 1,slice none 0 0] 289):=XD _ _;rw[bE,ab hk];simpa using hj
 have s3:Xq (∀u∈([string f.Zbz,int i64 k,slice (some ⟨W.heap.size,0,none⟩) 1 1,slice none 0 0]:List Value),u.oneCell'=true):=by rw[<-K.o];exact MP p
 have s4:Xq ((sg y).n+1<=maxLen):=by show y.length+1<=_;unfold maxLen;omega
 have s5:Xq (((sg y).n+1)*72<=140737488355328):=by show(y.length+1)*72<=_;omega
 have ac:Xq (∀wz Z,aO wz x 235 (N8 C (y++[p]) Z) (N9 C (y++[p])) Z->aw x (c.alloc (.cells #[string f.Zbz,int i64 k,slice (some ⟨W.heap.size,0,none⟩) 1 1,slice none 0 0] 289)).drew U wz Z->GbS o x n v (VG f) N l (returned (tuple #[])) wz):=fun wz Z g1 g2=>by
  have g3:=g2.first ((aa.refl [] c).alloc (.cells #[string f.Zbz,int i64 k,slice (some ⟨W.heap.size,0,none⟩) 1 1,slice none 0 0] 289)).drew;exact⟨rfl,C,y++[p],Z,s.push an.o ad.o g3 g1,aw.first ((ai.o.trans d.o).trans Y) (t.trans g3)⟩
 have Q:=fun X=>Bc X p;rw[K.o]at Q;have a7:Xq _:=Q;have bv:=fun l=>Q0 l f.Zbz (k:Int) (some ⟨W.heap.size,0,none⟩) 1 1;generalize f.Zbz=lb at *;clear Q an ad K H B3 B5 y0 y1 A HP s t bf Y b0 b1 b2 b3 b4 b5 b6 b7 b8;go_region_law (refine bB rfl (.tmp 20) (.tmp 26) 233 rfl iS (agg #[string ⟨#[]⟩,int i64 0,slice none 0 0,slice none 0 0]) 72 (U 1) (sg y) underlying233 bj aT a0 a1 rfl (by show 0<4;omega) (by simp[Act.eval] <;> rfl) (aO.ZbH hD.o 1) ⟨c.heap.size,0,none⟩ 1 1 [string lb,int i64 k,slice (some ⟨W.heap.size,0,none⟩) 1 1,slice none 0 0] (by simp[Act.eval]) rfl s2.o s3.o XR s4.o s5.o ?_;intro g6 E w6 ax G F;obtain⟨k6,f6,am⟩:=aO.app hD.o (cs':=N8 C (y++[p]) (gj U 1 ⟨some ⟨g6,0,none⟩,E⟩)) (rows':=N9 C (y++[p])) 1 1 g6 E (y.length+1) _ ax (a7.o y) G (by simpa using F) (GD C y _) _ rfl (by simp[N8,gj]);clear ax G F)
 all_goals go_wp2
 all_goals go_end0
 all_goals exact ac.o _ _ am.o.1 am.o.2
end Go.Proofs.YtpdholcaobgofaaGreat

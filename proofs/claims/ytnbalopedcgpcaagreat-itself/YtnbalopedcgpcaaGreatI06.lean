import Derived.Laws.OwnMore
import Derived.Test.YtnbalopedcgpcaaGreatI05
namespace Go.Proofs.YtnbalopedcgpcaaGreat
open Go.RowKit Tryz
open Value IntKind Ending
set_option linter.all false
set_option maxHeartbeats 0
variable{H x N:World}{n o:Nat}{L:Vs}{T D g:Hd}{v u:fY}{s:List Bool}(I:Nat)(a:List Q)(M:Nat)(k:Vs)(b:Nat)(w:List Q)(m:Nat->Hd)(y:World)(l:Nat)(t:Vs)
def bB(l:List Q)(a:Nat):List Pr:=wI (cm l (ae l a)) (aQ l a (cm l (ae l a)))
def bR(l:List Q)(n:Nat):Vq:=match l[n]? with | some s=>dt s | none=>⟨#[]⟩
def bU(p:Pr):Vq:=⟨#[36,100,32]⟩++p.1++⟨#[32]⟩++p.2
def aH(l:List Q)(a:Nat):Vs:=(ae l a).map (bR l)++(bB l a).map bU++[bR l a]
theorem re(h:l∈ae a b):l<a.length:=by grind [ae,eK]
theorem qi:(ae w l).length<=w.length:=by grind [ae,eK,gQ,cK]
theorem mf(a:Vu):(cm w a).length<=a.length:=YB ..
set_option maxRecDepth 100000
theorem zbz(h:eE y I M w m)(P:b<w.length)(p:eU w) :
  bF 100 #[pointer (some (aq I M)),J b] y λe D=>∃a c:Hd,e=dw (agg #[Y a.ao (ae w b).length a.cap,Y c.ao (bB w b).length c.cap])/\aD D a (rowN (ae w b))/\aD D c (kH (bB w b))/\(∀k,a.Z1=some k∨c.Z1=some k->y.heap.size<=k)/\aW y D:=by
 have G:=p.len;have R:=qi w b;have ad:=mf w (ae w b);have r:Z _:=λx (n:x∈ae w b)=>re w b x n;have H:Z (bB w b=wI (cm w (ae w b)) (aQ w b (cm w (ae w b)))):=rfl;have⟨W,B⟩:∃W,W=y.alloc (aM #[Y none 0 0,Y none 0 0] 166):=⟨_,rfl⟩
 have o:=iV B.symm;have F:=kD B.symm;have K:Z _:=B.symm;have f:=h.ZN o;have q:Z _:=j8 I M b w m W f P p;go_enter func100,ntmps100;go_wp2_with fail;rw[K.o];refine VP q ?_;rintro e w1 ⟨a,rfl,d,L,g⟩;go_wp2_with fail;refine(wP I M w m (ae w b) a w1 (f.ZN g) p d (by omega) r).mono ?_;rintro e w2 ⟨hv,rfl,A,N,i⟩;go_wp2_with fail;refine(Gi I M b w m hv (cm w (ae w b)) w2 ((f.ZN g).ZN i) p A (by omega)).mono ?_;rintro e E ⟨c,rfl,l,O,C⟩;rw[<-H.o]at l ⊢;have j:=((g.trans i).trans C).gt F;have z:aW y E:=((o.trans g).trans i).trans C;have U:=(o.trans g).size;have V:=((o.trans g).trans i).size;have S:=g.size;have T:=i.size;have X:=am F;have⟨z0,z1⟩:=xM j;have yf:=ay j;have s:Z (∀u v,aD ((E.setCell (aC y.heap.size) u).setCell (aq y.heap.size 1) v) a (rowN (ae w b))):=λu v=>(d.ZS (λx n=>(i.trans C).block x (d.lt n) (by simp))).ZS (λx n=>(VN _ _ _ _ (by grind)).trans (VN _ _ _ _ (by grind)));have t:Z (∀u v,aD ((E.setCell (aC y.heap.size) u).setCell (aq y.heap.size 1) v) c (kH (bB w b))):=λu v=>l.ZS (λx n=>(VN _ _ _ _ (by grind)).trans (VN _ _ _ _ (by grind)));go_wp2;exact VV (v:=agg #[Y a.ao (ae w b).length a.cap,Y c.ao (bB w b).length c.cap]) (by simp[results,results100,go_sem,z0,z1]) rfl
  ⟨a,c,rfl,s ..,t ..,by grind,
   (z.sr1 (Vy _) _).sr1 (Vy _) _⟩
def qx(L:Vs)(k:Nat):Vs:=L.take k++List.replicate (L.length-k) ⟨#[]⟩
theorem No(h:l<=k.length):(qx k l).length=k.length:=by simp[qx];omega
theorem Jn(h:l<k.length):qx k (l+1)=(qx k l).set l k[l]:=by unfold qx;rw[gc k l h];apply WZ;grind
theorem Nn:qx t t.length=t:=by simp[qx]
theorem RH(x:Vq):strs (k.set l x)=(strs k).set l (an x):=by simp[strs]
def dH(w:World)(g:Nat)(L:Vs)(k:Nat):Prop:=w.heap[g]?=some (aM (strs (qx L k)).toArray 9)
theorem dH.next{x:Vq}(h:dH H n L o)(b:L[o]?=some x):dH (H.setCell (aq n o) (an x)) n L (o+1):=by obtain⟨a,rfl⟩:=VT.1 b;unfold dH at h ⊢;rw[ab h,Jn L o a,RH,WY]
theorem dH.cell{i:Nat}(h:dH H n L o)(b:o<=L.length)(a:i<L.length):∃x,H.cell? (aq n i)=some (an x):=by refine⟨(qx L o)[i]'(by grind [No]),?_⟩;rw[ar h];simp[strs]
theorem dH.Z0{S:Vu}(h:dH H n L o)(q:aa S H x)(a:n∉S):dH x n L o:=q.get h a
def Eu(l:List Q):Prop:=∀s∈l,s.Z3≠1->SQ s
theorem rg:(aH w l).length=(ae w l).length+(bB w l).length+1:=by simp[aH];omega
theorem Bo(h:l<(ae a b).length)(c:(ae a b)[l]<a.length):(aH a b)[l]?=some (dt a[(ae a b)[l]]):=by grind [aH,bR]
theorem yW(h:l<(bB a b).length):(aH a b)[(ae a b).length+l]?=some (bU (bB a b)[l]):=by grind [aH]
theorem yV(a:l<w.length):(aH w l)[(ae w l).length+(bB w l).length]?=some (dt w[l]):=by grind [aH,bR]
theorem yS(h:l∈ae a b)(c:l<a.length):a[l].Z3=2∨a[l].Z3=3:=by grind [ae,eK,gQ,jx]
theorem TJ(h:∀x∈k,x.size<=l):(gD k b).size<=l:=by unfold gD;rw[Vz];cases e:k[b]? with|none=>exact WD _|some x=>grind
theorem zq(e:Eu w)(p:Pr)(h:p∈bB w l):p.1.size<=100000/\p.2.size<=100000:=by (have j:∀x∈cm w (ae w l),x.size<=100000:=by intro x d;unfold cm at d;have⟨n,c,b⟩:=WV.1 d;have a:=re w l n c;unfold fN at b;rw[Vv a]at b;simp only at b;split at b;{next f => cases b;have i:=yS w l n c a;unfold az;split;{next g => refine(e w[n] (VZ a) (by omega)).syms _ ?_;grind};{exact WD _}};grind);grind [bB,wI,qz,lz,TJ]
theorem Tl:(⟨#[36,100,32]⟩:Vq).size=3:=rfl
theorem Uy(L:List Pr)(k:Nat)(h:k<L.length):(Nu L)[k*2]?=some (an L[k].1)/\(Nu L)[k*2+1]?=some (an L[k].2):=by induction L generalizing k with|nil=>simp at h|cons p L a=>{cases k with|zero=>exact⟨rfl,rfl⟩|succ k=>have:=a k (by simpa using h);have e:Nu (p :: L)=an p.1 :: an p.2 :: Nu L:=rfl;grind}
theorem I9(h:eE y I M w m)(ha:b<w.length)(ok:eU w)(hz:Eu w)(bh:w[b].Z3≠1) :
  bF 111 #[pointer (some (aq I M)),J b] y λe w'=>∃g,e=dw (Y (some (aC g)) (aH w b).length (aH w b).length)/\dH w' g (aH w b) (aH w b).length/\y.heap.size<=g/\aW y w':=by have⟨i0,hi,bv,bx,b0⟩:=Wh fD;have b4:=ok.len;have ca:=qi w b;have bp:=mf w (ae w b);have cg:(bB w b).length<=100000000:=xi _ _ (by omega);have r:Z _:=rg w b;have⟨N,A⟩:=bX ((aH w b).length);rw[A.o]at r ⊢;have a1:Z _:=λk (h:k<(ae w b).length) (hq:(ae w b)[k]<w.length)=>Bo w b k h hq;have a3:Z _:=λj (h:j<(bB w b).length)=>yW w b j h;have a2:Z _:=yV w b ha;have a6:Z _:=zq w b hz;have a0:Z (∀n∈ae w b,∃h:n<w.length,SQ w[n]):=λn hn=>⟨re w b n hn,hz _ (by simp) (by have:=yS w b n hn (re w b n hn);omega)⟩;have bl:=hz _ (by simp) bh;have a5:Z _:=zbz I M b w m y h ha ok;have m1:=λy=>eQ (P:=prog) y 22 9 i0 _ underlying22 hi bv N 1 bx (by rw[b0];have:=r.o;omega) (by have:=r.o;omega);have⟨mc,O⟩:∃mc,mc=madeCells (an ⟨#[]⟩).cells (N*1):=⟨_,rfl⟩;(rw[<-O]at m1;have a4:Z (mc=(strs (qx (aH w b) 0)).toArray):=by show _=_;rw[O];have e:(an ⟨#[]⟩).cells=#[cL]:=rfl;rw[e,FK];simp[qx,strs,A.o]);(clear O hz;generalize hL:aH w b=L at *;generalize hHy:ae w b=a at *;generalize hPr:bB w b=d at *;clear hL hHy hPr bp;have b8:(a.length:Int)+(d.length:Int)+1=(N:Int):=by have:=r.o;omega);(have b7:N<=200000000:=by omega);go_enter func111,ntmps111;go_wp2_with fail;refine VP a5 ?_;rintro e w1 ⟨hh,hp,rfl,ah,ai,b6,k1⟩;have⟨AH,af⟩:=bX (hh.ao);have⟨AP,ag⟩:=bX (hp.ao);rw[af.o,ag.o];have⟨X,hX⟩:∃X,X=w1.alloc (aM #[Y AH a.length hh.cap,Y AP d.length hp.cap] 166):=⟨_,rfl⟩;have kX:=iV hX.symm;have BX:=kD hX.symm;have HX:Z _:=hX.symm;clear hX;have⟨V,hY⟩:∃V,V=X.alloc (aM mc 9):=⟨_,rfl⟩;(have kY:=iV hY.symm;have BY:dH V X.heap.size L 0:=by unfold dH;rw[hY,<-a4.o];exact VB ..);have HY:Z _:=hY.symm;clear hY;have⟨u0,u1⟩:=xM BX;have b5:=am BX;have ap:=h.ZN (k1.trans kX);have cj:=(k1.trans kX).size;have B:=ah.ZS (λx T=>kX.block x (ah.lt T) (by simp));have u:=ai.ZS (λx T=>kX.block x (ai.lt T) (by simp));go_upto_region 3 with fail;rw[HX.o];go_upto_region 4 with fail;rw[HY.o];clear u0 u1 m1;generalize hG:X.heap.size=G at *;go_wp2;go_loopg [8] a.length (λgk i wr=>∃(k:Nat),k<=a.length/\gk=a.length-k/\i=J k/\dH wr G L k/\aW X wr);{grind};obtain⟨k,hk,hg,rfl,F,W⟩:=hrel;have p:=ap.ZN W;have ad:=W.gt BX;have⟨u0,u1⟩:=xM ad;by_cases K:k<a.length;{have v:=B.ZS (λx T=>W.block x (B.lt T) (by simp));rcases v.ZY with ⟨_,h0,_⟩ | ⟨gh,b1,eh,a9,bb,-⟩;{have:a.length=0:=h0;omega};(have ch:=v.cell eh k (J a[k]) (jB a k K);have bf:AH=some (aC gh):=by rwa [<-af.o]);(subst bf;have⟨z,bk⟩:=a0 a[k] (VZ K);have C:Z _:=a1 k K z;have cf:(k:Int)<a.length:=by omega);(clear eh a9 bb v;generalize a[k]=q at *;have S:=ok.syms q z;have R:=(p.ZZ.syms q w[q] (Vv z)).view;go_wp2_with fail;refine(br I M q w m wr p z).mono ?_;rintro e w3 ⟨rfl,k3⟩;go_wp2_with fail;refine(Fz w[q] _ _ w3 (R.ZN k3) S bk).mono ?_;rintro e w4 ⟨rfl,k4⟩;have s:=k3.trans k4;have c:=F.Z0 s (by simp);have⟨x0,cx⟩:=c.cell (i:=k) (by have:=A.o;omega) (by have:=A.o;omega);have ak:=ay c;have o:Z _:=c.next C;have E:=W.trans s;have ce:(k:Int)<(N:Int):=by omega);generalize dt w[q]=tx at *;go_wp2;go_roundg (a.length-(k+1));{exact⟨k+1,by omega,rfl,by go_num,o,E.setCell (VH (Zs hG)) _⟩};omega};{(have e:k=a.length:=by omega);subst e;clear u0;go_wp2;go_loopg [9] d.length (λbe i2 av=>∃(j:Nat),j<=d.length/\be=d.length-j/\i2=J j/\dH av G L (a.length+j)/\aW X av);{exact⟨0,by omega,by omega,rfl,F,W⟩};obtain⟨j,hj,yE,rfl,f,t⟩:=hrel;clear F W p ad u1;have ax:=t.gt BX;have⟨_,u1⟩:=xM ax;by_cases H:j<d.length;{have l:=u.ZS (λx T=>t.block x (u.lt T) (by simp));rcases l.ZY with ⟨_,h0,_⟩ | ⟨D,b2,ep,bc,bd,-⟩;{have:d.length=0:=h0;omega};(have⟨v1,v2⟩:=Uy d j H;have a7:=l.cell ep (j*2) _ v1;have a8:=l.cell ep (j*2+1) _ v2;have bg:AP=some (aC D):=(by rwa [<-ag.o]);subst bg;have C:Z _:=a3 j H;obtain⟨z1,z2⟩:=a6 _ (VZ H);have cc:(j:Int)<d.length:=by omega);(have cb:(0:Int)<=j:=(by omega);have bs:(0:Int)<=(a.length:Int)+(j:Int):=(by omega);have bt:(a.length:Int)+(j:Int)<(N:Int):=(by omega);have cl:IntKind.i64.wrap ((a.length:Int)+(j:Int))=(a.length:Int)+(j:Int):=(by rw[WQ];omega);have bo:((a.length:Int)+(j:Int)).toNat=a.length+j:=(by omega);have b3:=u.lt (k:=D) (by unfold Hd.Z1;rw[ep];rfl);have co:G≠w1.heap.size:=(by omega);have cp:w1.heap.size≠G:=(by omega);have cq:G≠D:=(by omega);have cs:D≠G:=(by omega);clear ep bc bd l v1 v2;generalize d[j]=pp at *;obtain⟨U,p2⟩:=pp;simp only at a7 a8 z1 z2;have HT:Z (⟨#[36,100,32]⟩++U++⟨#[32]⟩++p2=bU (U,p2)):=rfl;have n1:¬9223372036854775807<3+U.size:=by omega);have n2:¬9223372036854775807<3+U.size+1:=(by omega);have n3:¬9223372036854775807<3+U.size+1+p2.size:=(by omega);obtain⟨x0,cx⟩:=f.cell (i:=a.length+j) (by have:=A.o;omega) (by have:=A.o;omega);have ak:=ay f;have o:Z (dH (wr.setCell (aq G (a.length+j)) (an (bU (U,p2)))).drew G L (a.length+j+1)):=(f.next C).Z0 bN.drew (by simp);(go_upto_region 11 with fail);go_region_held3 (λw'=>w'.cell? (aq w1.heap.size 1)=some (Y (some (aC D)) d.length hp.cap)/\w'.cell? (aq D (j*2))=some (an U)/\w'.cell? (aq D (j*2+1))=some (an p2)) (go_keep) (fail);rw[HT.o];go_wp2;go_roundg (d.length-(j+1));{exact⟨j+1,by omega,rfl,by go_num,o,(t.setCell (VH (Zs hG)) _).drew⟩};omega};{(have e:j=d.length:=(by omega);subst e;have p:=ap.ZN t;have R:=(p.ZZ.syms b w[b] (by simp)).view;have S:=ok.syms b ha;have bo:((a.length:Int)+(d.length:Int)).toNat=a.length+d.length:=by omega);(have b9:(N:Int)-1=(a.length:Int)+(d.length:Int):=(by omega);go_wp2_with fail;refine(br I M b w m wr p ha).mono ?_;rintro e w3 ⟨rfl,k3⟩;go_wp2_with fail;refine(Fz w[b] _ _ w3 (R.ZN k3) S bl).mono ?_;rintro e w4 ⟨rfl,k4⟩;have s:=k3.trans k4;have c:=f.Z0 s (by simp);obtain⟨x0,cx⟩:=c.cell (i:=a.length+d.length) (by have:=A.o;omega) (by have:=A.o;omega);have ak:=ay c;have o:Z _:=c.next a2;have E:=t.trans s;have bs:(0:Int)<=(a.length:Int)+(d.length:Int):=by omega);have bt:(a.length:Int)+(d.length:Int)<(N:Int):=(by omega);have HE:Z (a.length+d.length+1=N):=r.o.symm;rw[HE.o]at o;generalize dt w[b]=tx at *;go_wp2;go_ret;exact⟨G,rfl,o,by omega,(k1.trans (kX.trans E)).setCell (VH (by omega)) _⟩}}
structure fz(w w':World)(h h':Hd):Prop where
 Z0:aa h.Z1.toList w w'
 Z1:h'.Z1=h.Z1∨∃g,h'.Z1=some g/\w.heap.size<=g
theorem kS(a:n∈T.Z1.toList):T.Z1=some n:=by grind
theorem fz.ZN(k:aW H x):fz H x T T:=⟨k.mono (by simp),VR rfl⟩
theorem fz.trans{w1:World}(a:fz H w1 T D)(b:fz w1 x D g):fz H x T g:=by refine⟨⟨b.Z0.os.trans a.Z0.os,b.Z0.tape.trans a.Z0.tape,b.Z0.output.trans a.Z0.output,V9 a.Z0.size b.Z0.size,λk i j=>?_⟩,?_⟩;{rw[b.Z0.block k (VW i a.Z0.size) (λl=>?_),a.Z0.block k i j];have e:=kS l;rcases a.Z1 with c | ⟨d,c,f⟩;{grind};grind};{rcases b.Z1 with e | ⟨d,e,f⟩;{rcases a.Z1 with c | ⟨d,c,f⟩;{grind};grind};{exact VH ⟨d,e,V9 a.Z0.size f⟩}}
theorem fz.made{c:Nat}(a:H.grownBy x T.Z1)(b:T.Z1=some n∨H.heap.size<=n):fz H x T ⟨some (aC n),c⟩ :=
 ⟨⟨a.os,a.tape,a.output,a.size,λk d f=>a.block k d (by grind)⟩,by
  rcases b with e | e
  ·exact VR e.symm
  ·exact VH ⟨n,rfl,e⟩⟩
theorem aD.ZN(o:aD H T v)(k:aW H x):aD x T v:=o.ZS (λq a=>k.block q (o.lt a) (by simp))
structure kO(w wr:World)(h:Hd)(r:fY):Prop where
 Zad:aD wr h r
 far:∀k,h.Z1=some k->w.heap.size<=k
 Z0:aW w wr
theorem kO.ZN(a:kO H x T v)(k:aW x N):kO H N T v:=⟨a.Zad.ZN k,a.far,a.Z0.trans k⟩
theorem kO.ZX(a:kO H x T v)(g:fz x N T D)(o:aD N D u):kO H N D u:=by refine⟨o,λk b=>?_,⟨g.Z0.os.trans a.Z0.os,g.Z0.tape.trans a.Z0.tape,g.Z0.output.trans a.Z0.output,V9 a.Z0.size g.Z0.size,λk b _=>?_⟩⟩;{rcases g.Z1 with e | ⟨q,e,c⟩;{exact a.far k (by grind)};{rw[e]at b;cases b;exact V9 a.Z0.size c}};{rw[g.Z0.block k (VW b a.Z0.size) (λc=>by have:=a.far _ (kS c);omega),a.Z0.block k b (by simp)]}
theorem fz.beside(b:fz H x T D)(a:aD H g v)(c:∀k,g.Z1=some k->T.Z1≠some k):aD x g v :=
 a.ZS (λq d=>b.Z0.block q (a.lt d) (by grind))
theorem dG{P:Program}{k:Array Oper}{d:List Oper}{o:Oper}{a:Act}{l:Exit->Act->World->Prop}(N:o.guard=none)(s x:Operand)(t:TypeId)(v:o.op=Op.call { callee:=Callee.builtin Builtin.append,args:=#[s,x],argTypes:=#[t,t] })(i:TypeInfo)(z:Value)(c:Nat)(h:Hd)(r:fY)(b:List Value)(D:P.underlying t=some (.slice r.e))(E:P.info? r.e=some i)(F:i.zero=some z)(G:i.size=r.size)(H:i.bytes=c)(I:z.cells.size=r.size)(K:0<r.size)(O:a.eval s=Y h.ao r.n h.cap)(j:aD y h r)(T:r.n<=1000000)(M:c<=1000)(R:a.eval x=Y (some (aC y.heap.size)) 1 1)(V:b.length=r.size)(p:∀u∈b,u.oneCell'=true)(L:∀m A,aD A m ⟨r.e,r.size,r.n+1,r.xs++b⟩->fz y A h m->wpList P k l d (a.put o.dst (Y m.ao (r.n+1) m.cap)) A) :
  wpList P k l (o :: d) a (y.alloc (aM b.toArray r.e)):=by have B:aW y (y.alloc (aM b.toArray r.e)):=bN.alloc _;have U:(y.alloc (aM b.toArray r.e)).heap[y.heap.size]?=some (aM b.toArray r.e):=VB _ _;refine aA _ N s x t v i z c h r D E F G H I K O (j.ZN B) (aC y.heap.size) 1 1 b R (by omega) ?_ p VL (by unfold maxLen;omega) (V9 (XE (show r.n+1<=1000001 by omega) M) (by omega)) ?_;{simp[bw,ar]};{intro C f S w g q;exact L ⟨some (aC C),f⟩ S w ((fz.ZN B).trans (fz.made g q))}
theorem kO.two{f:fY}(a:kO H x T v)(b:kO H x g f)(j:∀k,T.Z1=some k->g.Z1≠some k)(c:fz x N T D)(o:aD N D u):kO H N D u/\kO H N g f/\∀k,D.Z1=some k->g.Z1≠some k:=by have d:=a.ZX c o;refine⟨d,⟨c.beside b.Zad (by grind),b.far,d.Z0⟩,λk l i=>?_⟩;rcases c.Z1 with e | ⟨q,e,m⟩;{grind};{have:=b.Zad.lt i;grind}
def pJ(w:World)(g:Nat)(sn:List Bool):Prop:=w.heap[g]?=some (aM (sn.map bool).toArray 4)
theorem pJ.cell(h:pJ H n s)(k:Nat)(b:Bool)(a:s[k]?=some b):H.cell? (aq n k)=some (bool b):=by rw[ar h];simp[a]
theorem pJ.Z0{S:Vu}(h:pJ H n s)(k:aa S H x)(a:n∉S):pJ x n s:=k.get h a
theorem pJ.set(h:pJ H n s)(k:Nat):pJ (H.setCell (aq n k) (bool true)) n (s.set k true):=by unfold pJ;rw[ab h];simp
theorem zbe:(prog.info? 4).map (λi=>(i.zero,i.size,i.bytes))=some (some (bool false),1,1):=by kernel_rfl
theorem Jd:madeCells (bool false).cells (l*1)=((List.replicate l false).map bool).toArray:=by rw[Nat.mul_one];apply Array.ext;{rw[XA];simp};{intro i a b;have e:(bool false).cells=#[bool false]:=rfl;simp[madeCells,e,Nat.mod_one]}
theorem vI(p:Nat->Bool)(k:Nat):(List.range (k+1)).filter p=(List.range k).filter p++(if p k=true then [k] else []):=by rw[WG,WB];grind
def Aw(bo:Option Nat):Vt:=bo.map (λb=>(aC b))
structure pW(w:World)(bo:Option Nat)(L:Vs):Prop where
 nil:bo=none ↔ L=[]
 Z1:∀b,bo=some b->w.heap[b]?=some (aM (strs L).toArray 9)
theorem aD.putAt(o:aD H T v)(d:T.ao=some (aC n))(j:Nat)(b:Value):aD (H.setCell (aq n j) b) T ⟨v.e,v.size,v.n,v.xs.set j b⟩:=by refine⟨by rw[Xa];exact o.1,?_⟩;rcases o.2 with ⟨f,u⟩ | ⟨s,c,a,f,m,p,i,k,t,l⟩;{grind};{injection f with g q r;rw[g]at d;cases d;refine VH ⟨n,c,a.setIfInBounds j b,by grind,m,by rw[ab p],i,k,by grind,?_⟩;rw[Yo];(show(a.toList.set j b).take (v.n*v.size)=v.xs.set j b);rw[<-l,Zg]}
theorem dZ(o:aD H T v)(f:0<v.n):∃g,T.ao=some (aC g)/\g<H.heap.size/\v.n<=T.cap:=by rcases o.ZY with ⟨_,e,_⟩ | ⟨g,a,b,c,d,-⟩;{omega};grind
def DC{α:Type}(e s:Nat)(f:α->List Value)(L:List α):fY:=⟨e,s,L.length,L.flatMap f⟩
theorem UK{α:Type}{f:α->List Value}(d:∀x,(f x).length=n)(L:List α)(j:Nat)(t:α)(h:L[j]?=some t)(c:Nat)(b:c<n):(L.flatMap f)[j*n+c]?=(f t)[c]?:=by induction L generalizing j with|nil=>cases h|cons a L e=>{rw[Wf];cases j with|zero=>grind|succ j=>grind}
theorem NK{α:Type}(f:α->List Value)(L:List α)(x:α):(⟨(DC b l f L).e,(DC b l f L).size,(DC b l f L).n+1,(DC b l f L).xs++f x⟩:fY)=DC b l f (L++[x]):=by simp[DC]
def zdr{α:Type}(w:World)(ao:Vt)(s:Nat)(f:α->List Value)(L:List α):Prop:=∀(k:Nat) (x:α),L[k]?=some x->∃g,ao=some (aC g)/\g<w.heap.size/\∀(c:Nat) (u:Value),(f x)[c]?=some u->w.cell? (aq g (k*s+c))=some u
theorem aD.srcG{α:Type}{f:α->List Value}{L:List α}(b:aD H T (DC n o f L))(l:∀x,(f x).length=o):zdr H T.ao o f L:=by (intro k x e;have i:=(VT.1 e).1;obtain⟨g,a,d,-⟩:=dZ b (show 0<L.length by omega);refine⟨g,a,d,λc u m=>b.cell a (k*o+c) u ?_⟩;have j:c<o:=by grind);(show(L.flatMap f)[k*o+c]?=some u);grind [UK]
section
variable {d:Db}
def vr(s:Q):Vq:=s.ZI.getD 1 ⟨#[]⟩
structure FlD(d:Db):Prop where
 fl:∀(n:Nat) (s:Q),d.ZZ[n]?=some s->s.Z3=2->s.ZI.length=2
 ds:∀(n m:Nat) (s u:Q),d.ZZ[n]?=some s->d.ZZ[m]?=some u->s.Z3=2->u.Z3=2->n<m->(s.til=0∨m<s.til)->((vr s).toList==(vr u).toList)=false
 op:d.Z3=2->2<=d.ZI.length->bi d.ZU (d.ZI.getD 1 ⟨#[]⟩)=false/\d.ZI.length=2
end
def ON(L:Vs)(c:Int)(w:World)(e:Ending)(w':World):Prop:=∃bo,e=dw (tuple #[Y (Aw bo) L.length L.length,J c])/\pW w' bo L/\(∀b,bo=some b->w.heap.size<=b)/\aW w w'
theorem Re:(⟨(rowS k).e,(rowS k).size,(rowS k).n+t.length,(rowS k).xs++strs t⟩:fY)=rowS (k++t):=by simp[rowS,strs]
end Go.Proofs.YtnbalopedcgpcaaGreat

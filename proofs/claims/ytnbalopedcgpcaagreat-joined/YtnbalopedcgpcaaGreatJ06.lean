import Derived.Laws.OwnMore
import Derived.Test.YtnbalopedcgpcaaGreatJ05
namespace Go.Proofs.YtnbalopedcgpcaaGreat
open Go.RowKit Tryz
open Value IntKind Ending
set_option linter.all false
set_option maxHeartbeats 0
variable{H x N:World}{n D:Nat}{k:Vs}{T L g:Hd}{v u:gY}{s:List Bool}{z3:Vt}(I:Nat)(o:List St)(M:Nat)(a:Vs)(b:Nat)(w:List St)(m:Nat->Hd)(y:World)(l:Nat)(t:Vs)
def bS(l:List St)(a:Nat):List Pr:=AL (bW l (ae l a)) (bT l a (bW l (ae l a)))
def dt(l:List St)(n:Nat):Vq:=match l[n]? with | some s=>fQ s | none=>⟨#[]⟩
def dJ(p:Pr):Vq:=⟨#[36,100,32]⟩++p.1++⟨#[32]⟩++p.2
def bP(l:List St)(a:Nat):Vs:=(ae l a).map (dt l)++(bS l a).map dJ++[dt l a]
theorem jT(h:l∈ae o b):l<o.length:=by grind [ae,eC]
theorem jP:(ae w l).length<=w.length:=by grind [ae,eC,fp,cy]
theorem oJ(a:Vu):(bW w a).length<=a.length:=Yj ..
set_option maxRecDepth 100000
theorem TM(h:dI y I M w m)(P:b<w.length)(p:dM w) :
  br 100 #[pointer (some (X I M)),Y b] y λe D=>∃a c:Hd,e=cA (agg #[Q a.ao (ae w b).length a.cap,Q c.ao (bS w b).length c.cap])/\aO D a (rowN (ae w b))/\aO D c (lh (bS w b))/\(∀k,a.ZF=some k∨c.ZF=some k->y.heap.size<=k)/\aJ y D:=by
 have G:=p.len;have R:=jP w b;have af:=oJ w (ae w b);have r:Z _:=λx (n:x∈ae w b)=>jT w b x n;have H:Z (bS w b=AL (bW w (ae w b)) (bT w b (bW w (ae w b)))):=rfl;have⟨W,B⟩:∃W,W=y.alloc (aK #[Q none 0 0,Q none 0 0] 166):=⟨_,rfl⟩
 have o:=fU B.symm;have F:=gV B.symm;have K:Z _:=B.symm;have f:=h.Zr o;have q:Z _:=jm I M b w m W f P p;go_enter func100,ntmps100;go_wp2_with fail;rw[K.o];refine VC q ?_;rintro e w1 ⟨a,rfl,d,L,g⟩;go_wp2_with fail;refine(yA I M w m (ae w b) a w1 (f.Zr g) p d (by omega) r).mono ?_;rintro e w2 ⟨hv,rfl,A,N,i⟩;go_wp2_with fail;refine(IP I M b w m hv (bW w (ae w b)) w2 ((f.Zr g).Zr i) p A (by omega)).mono ?_;rintro e E ⟨c,rfl,l,O,C⟩;rw[<-H.o]at l ⊢;have j:=((g.trans i).trans C).gt F;have z:aJ y E:=((o.trans g).trans i).trans C;have U:=(o.trans g).size;have V:=((o.trans g).trans i).size;have S:=g.size;have T:=i.size;have ad:=ak F;have⟨z0,z1⟩:=sL j;have yf:=aE j;have s:Z (∀u v,aO ((E.setCell (aD y.heap.size) u).setCell (X y.heap.size 1) v) a (rowN (ae w b))):=λu v=>(d.Zw (λx n=>(i.trans C).block x (d.lt n) (by simp))).Zw (λx n=>(VB _ _ _ _ (by grind)).trans (VB _ _ _ _ (by grind)));have t:Z (∀u v,aO ((E.setCell (aD y.heap.size) u).setCell (X y.heap.size 1) v) c (lh (bS w b))):=λu v=>l.Zw (λx n=>(VB _ _ _ _ (by grind)).trans (VB _ _ _ _ (by grind)));go_wp2;exact VQ (v:=agg #[Q a.ao (ae w b).length a.cap,Q c.ao (bS w b).length c.cap]) (by simp[results,results100,go_sem,z0,z1]) rfl
  ⟨a,c,rfl,s ..,t ..,by grind,
   (z.sr1 (Vw _) _).sr1 (Vw _) _⟩
def ru(L:Vs)(k:Nat):Vs:=L.take k++List.replicate (L.length-k) ⟨#[]⟩
theorem PH(h:l<=a.length):(ru a l).length=a.length:=by simp[ru];omega
theorem LC(h:l<a.length):ru a (l+1)=(ru a l).set l a[l]:=by unfold ru;rw[gj a l h];apply WW;grind
theorem PG:ru t t.length=t:=by simp[ru]
theorem U8(x:Vq):strs (a.set l x)=(strs a).set l (J x):=by simp[strs]
def gS(w:World)(g:Nat)(L:Vs)(k:Nat):Prop:=w.heap[g]?=some (aK (strs (ru L k)).toArray 9)
theorem gS.next{x:Vq}(h:gS H n k D)(b:k[D]?=some x):gS (H.setCell (X n D) (J x)) n k (D+1):=by obtain⟨a,rfl⟩:=VV.1 b;unfold gS at h ⊢;rw[ac h,LC k D a,U8,WL]
theorem gS.cell{i:Nat}(h:gS H n k D)(b:D<=k.length)(a:i<k.length):∃x,H.cell? (X n i)=some (J x):=by refine⟨(ru k D)[i]'(by grind [PH]),?_⟩;rw[ay h];simp[strs]
theorem gS.ZE{S:Vu}(h:gS H n k D)(q:ab S H x)(a:n∉S):gS x n k D:=q.get h a
def Gn(l:List St):Prop:=∀s∈l,s.ZG≠1->zaP s
theorem se:(bP w l).length=(ae w l).length+(bS w l).length+1:=by simp[bP];omega
theorem De(h:l<(ae o b).length)(a:(ae o b)[l]<o.length):(bP o b)[l]?=some (fQ o[(ae o b)[l]]):=by grind [bP,dt]
theorem Ai(h:l<(bS o b).length):(bP o b)[(ae o b).length+l]?=some (dJ (bS o b)[l]):=by grind [bP]
theorem Ah(a:l<w.length):(bP w l)[(ae w l).length+(bS w l).length]?=some (fQ w[l]):=by grind [bP,dt]
theorem vm(h:l∈ae o b)(a:l<o.length):o[l].ZG=2∨o[l].ZG=3:=by grind [ae,eC,fp,iU]
theorem zby(h:∀x∈a,x.size<=l):(gD a b).size<=l:=by unfold gD;rw[Vy];cases e:a[b]? with|none=>exact Wp _|some x=>grind
theorem Ay(e:Gn w)(p:Pr)(h:p∈bS w l):p.1.size<=100000/\p.2.size<=100000:=by (have j:∀x∈bW w (ae w l),x.size<=100000:=by intro x d;unfold bW at d;have⟨n,c,b⟩:=WO.1 d;have a:=jT w l n c;unfold ip at b;rw[Vv a]at b;simp only at b;split at b;{next f => cases b;have i:=vm w l n c a;unfold ar;split;{next g => refine(e w[n] (VR a) (by omega)).syms _ ?_;grind};{exact Wp _}};grind);grind [bS,AL,sQ,lV,zby]
theorem za9:(⟨#[36,100,32]⟩:Vq).size=3:=rfl
theorem zci(L:List Pr)(k:Nat)(h:k<L.length):(PM L)[k*2]?=some (J L[k].1)/\(PM L)[k*2+1]?=some (J L[k].2):=by induction L generalizing k with|nil=>simp at h|cons p L a=>{cases k with|zero=>exact⟨rfl,rfl⟩|succ k=>have:=a k (by simpa using h);have e:PM (p :: L)=J p.1 :: J p.2 :: PM L:=rfl;grind}
theorem Lg(h:dI y I M w m)(ha:b<w.length)(ok:dM w)(hz:Gn w)(be:w[b].ZG≠1) :
  br 111 #[pointer (some (X I M)),Y b] y λe w'=>∃g,e=cA (Q (some (aD g)) (bP w b).length (bP w b).length)/\gS w' g (bP w b) (bP w b).length/\y.heap.size<=g/\aJ y w':=by have⟨i0,hi,bo,bp,bq⟩:=VZ eU;have bx:=ok.len;have b5:=jP w b;have bk:=oJ w (ae w b);have ca:(bS w b).length<=100000000:=yT _ _ (by omega);have s:Z _:=se w b;have⟨N,B⟩:=bR ((bP w b).length);rw[B.o]at s ⊢;have ax:Z _:=λk (h:k<(ae w b).length) (hq:(ae w b)[k]<w.length)=>De w b k h hq;have a0:Z _:=λj (h:j<(bS w b).length)=>Ai w b j h;have az:Z _:=Ah w b ha;have a3:Z _:=Ay w b hz;have av:Z (∀n∈ae w b,∃h:n<w.length,zaP w[n]):=λn hn=>⟨jT w b n hn,hz _ (by simp) (by have:=vm w b n hn (jT w b n hn);omega)⟩;have bg:=hz _ (by simp) be;have a2:Z _:=TM I M b w m y h ha ok;have m1:=λy=>cq (P:=prog) y 22 9 i0 _ underlying22 hi bo N 1 bp (by rw[bq];have:=s.o;omega) (by have:=s.o;omega);have⟨mc,R⟩:∃mc,mc=madeCells (J ⟨#[]⟩).cells (N*1):=⟨_,rfl⟩;(rw[<-R]at m1;have a1:Z (mc=(strs (ru (bP w b) 0)).toArray):=by show _=_;rw[R];have e:(J ⟨#[]⟩).cells=#[dx]:=rfl;rw[e,Iq];simp[ru,strs,B.o]);(clear R hz;generalize hL:bP w b=L at *;generalize hHy:ae w b=a at *;generalize hPr:bS w b=d at *;clear hL hHy hPr bk;have b3:(a.length:Int)+(d.length:Int)+1=(N:Int):=by have:=s.o;omega);(have b2:N<=200000000:=by omega);go_enter func111,ntmps111;go_wp2_with fail;refine VC a2 ?_;rintro e w1 ⟨hh,hp,rfl,ah,ai,b1,k1⟩;have⟨AH,af⟩:=bR (hh.ao);have⟨AP,ag⟩:=bR (hp.ao);rw[af.o,ag.o];have⟨f,hX⟩:∃f,f=w1.alloc (aK #[Q AH a.length hh.cap,Q AP d.length hp.cap] 166):=⟨_,rfl⟩;have kX:=fU hX.symm;have BX:=gV hX.symm;have HX:Z _:=hX.symm;clear hX;have⟨W,hY⟩:∃W,W=f.alloc (aK mc 9):=⟨_,rfl⟩;(have kY:=fU hY.symm;have BY:gS W f.heap.size L 0:=by unfold gS;rw[hY,<-a1.o];exact Vx ..);have HY:Z _:=hY.symm;clear hY;have⟨u0,u1⟩:=sL BX;have b0:=ak BX;have an:=h.Zr (k1.trans kX);have cb:=(k1.trans kX).size;have C:=ah.Zw (λx U=>kX.block x (ah.lt U) (by simp));have v:=ai.Zw (λx U=>kX.block x (ai.lt U) (by simp));go_upto_region 3 with fail;rw[HX.o];go_upto_region 4 with fail;rw[HY.o];clear u0 u1 m1;generalize hG:f.heap.size=G at *;go_wp2;go_loopg [8] a.length (λgk i wr=>∃(k:Nat),k<=a.length/\gk=a.length-k/\i=Y k/\gS wr G L k/\aJ f wr);{grind};obtain⟨k,hk,hg,rfl,H,hK⟩:=hrel;have r:=an.Zr hK;have ad:=hK.gt BX;have⟨u0,u1⟩:=sL ad;by_cases O:k<a.length;{have z:=C.Zw (λx U=>hK.block x (C.lt U) (by simp));rcases z.ZC with ⟨_,h0,_⟩ | ⟨gh,bs,eh,a6,a7,-⟩;{have:a.length=0:=h0;omega};(have ch:=z.cell eh k (Y a[k]) (jV a k O);have bc:AH=some (aD gh):=by rwa [<-af.o]);(subst bc;have⟨A,bf⟩:=av a[k] (VR O);have D:Z _:=ax k O A;have b9:(k:Int)<a.length:=by omega);(clear eh a6 a7 z;generalize a[k]=q at *;have T:=ok.syms q A;have S:=(r.ZD.syms q w[q] (Vv A)).view;go_wp2_with fail;refine(aY I M q w m wr r A).mono ?_;rintro e w3 ⟨rfl,k3⟩;go_wp2_with fail;refine(Ii w[q] _ _ w3 (S.Zr k3) T bf).mono ?_;rintro e w4 ⟨rfl,k4⟩;have t:=k3.trans k4;have c:=H.ZE t (by simp);have⟨x0,cx⟩:=c.cell (i:=k) (by have:=B.o;omega) (by have:=B.o;omega);have am:=aE c;have p:Z _:=c.next D;have F:=hK.trans t;have b8:(k:Int)<(N:Int):=by omega);generalize fQ w[q]=tx at *;go_wp2;go_roundg (a.length-(k+1));{exact⟨k+1,by omega,rfl,by go_num,p,F.setCell (VO (Yv hG)) _⟩};omega};{(have e:k=a.length:=by omega);subst e;clear u0;go_wp2;go_loopg [9] d.length (λbb i2 ap=>∃(j:Nat),j<=d.length/\bb=d.length-j/\i2=Y j/\gS ap G L (a.length+j)/\aJ f ap);{exact⟨0,by omega,by omega,rfl,H,hK⟩};obtain⟨j,hj,nM,rfl,l,u⟩:=hrel;clear H hK r ad u1;have aq:=u.gt BX;have⟨_,u1⟩:=sL aq;by_cases K:j<d.length;{have o:=v.Zw (λx U=>u.block x (v.lt U) (by simp));rcases o.ZC with ⟨_,h0,_⟩ | ⟨E,bv,ep,a8,a9,-⟩;{have:d.length=0:=h0;omega};(have⟨v1,v2⟩:=zci d j K;have a4:=o.cell ep (j*2) _ v1;have a5:=o.cell ep (j*2+1) _ v2;have bd:AP=some (aD E):=(by rwa [<-ag.o]);subst bd;have D:Z _:=a0 j K;obtain⟨z1,z2⟩:=a3 _ (VR K);have b7:(j:Int)<d.length:=by omega);(have b6:(0:Int)<=j:=(by omega);have bl:(0:Int)<=(a.length:Int)+(j:Int):=(by omega);have bm:(a.length:Int)+(j:Int)<(N:Int):=(by omega);have cc:IntKind.i64.wrap ((a.length:Int)+(j:Int))=(a.length:Int)+(j:Int):=(by rw[Wz];omega);have bh:((a.length:Int)+(j:Int)).toNat=a.length+j:=(by omega);have bw:=v.lt (k:=E) (by unfold Hd.ZF;rw[ep];rfl);have cd:G≠w1.heap.size:=(by omega);have ce:w1.heap.size≠G:=(by omega);have cf:G≠E:=(by omega);have cg:E≠G:=(by omega);clear ep a8 a9 o v1 v2;generalize d[j]=pp at *;obtain⟨V,p2⟩:=pp;simp only at a4 a5 z1 z2;have HT:Z (⟨#[36,100,32]⟩++V++⟨#[32]⟩++p2=dJ (V,p2)):=rfl;have n1:¬9223372036854775807<3+V.size:=by omega);have n2:¬9223372036854775807<3+V.size+1:=(by omega);have n3:¬9223372036854775807<3+V.size+1+p2.size:=(by omega);obtain⟨x0,cx⟩:=l.cell (i:=a.length+j) (by have:=B.o;omega) (by have:=B.o;omega);have am:=aE l;have p:Z (gS (wr.setCell (X G (a.length+j)) (J (dJ (V,p2)))).drew G L (a.length+j+1)):=(l.next D).ZE bH.drew (by simp);(go_upto_region 11 with fail);go_region_held3 (λw'=>w'.cell? (X w1.heap.size 1)=some (Q (some (aD E)) d.length hp.cap)/\w'.cell? (X E (j*2))=some (J V)/\w'.cell? (X E (j*2+1))=some (J p2)) (go_keep) (fail);rw[HT.o];go_wp2;go_roundg (d.length-(j+1));{exact⟨j+1,by omega,rfl,by go_num,p,(u.setCell (VO (Yv hG)) _).drew⟩};omega};{(have e:j=d.length:=(by omega);subst e;have r:=an.Zr u;have S:=(r.ZD.syms b w[b] (by simp)).view;have T:=ok.syms b ha;have bh:((a.length:Int)+(d.length:Int)).toNat=a.length+d.length:=by omega);(have b4:(N:Int)-1=(a.length:Int)+(d.length:Int):=(by omega);go_wp2_with fail;refine(aY I M b w m wr r ha).mono ?_;rintro e w3 ⟨rfl,k3⟩;go_wp2_with fail;refine(Ii w[b] _ _ w3 (S.Zr k3) T bg).mono ?_;rintro e w4 ⟨rfl,k4⟩;have t:=k3.trans k4;have c:=l.ZE t (by simp);obtain⟨x0,cx⟩:=c.cell (i:=a.length+d.length) (by have:=B.o;omega) (by have:=B.o;omega);have am:=aE c;have p:Z _:=c.next az;have F:=u.trans t;have bl:(0:Int)<=(a.length:Int)+(d.length:Int):=by omega);have bm:(a.length:Int)+(d.length:Int)<(N:Int):=(by omega);have HE:Z (a.length+d.length+1=N):=s.o.symm;rw[HE.o]at p;generalize fQ w[b]=tx at *;go_wp2;go_ret;exact⟨G,rfl,p,by omega,(k1.trans (kX.trans F)).setCell (VO (by omega)) _⟩}}
structure gn(w w':World)(h h':Hd):Prop where
 ZE:ab h.ZF.toList w w'
 ZF:h'.ZF=h.ZF∨∃g,h'.ZF=some g/\w.heap.size<=g
theorem so(a:n∈T.ZF.toList):T.ZF=some n:=by grind
theorem gn.Zr(k:aJ H x):gn H x T T:=⟨k.mono (by simp),VS rfl⟩
theorem gn.trans{w1:World}(a:gn H w1 T L)(b:gn w1 x L g):gn H x T g:=by refine⟨⟨b.ZE.os.trans a.ZE.os,b.ZE.tape.trans a.ZE.tape,b.ZE.output.trans a.ZE.output,VU a.ZE.size b.ZE.size,λk i j=>?_⟩,?_⟩;{rw[b.ZE.block k (VD i a.ZE.size) (λl=>?_),a.ZE.block k i j];have e:=so l;rcases a.ZF with c | ⟨d,c,f⟩;{grind};grind};{rcases b.ZF with e | ⟨d,e,f⟩;{rcases a.ZF with c | ⟨d,c,f⟩;{grind};grind};{exact VO ⟨d,e,VU a.ZE.size f⟩}}
theorem gn.made{c:Nat}(a:H.grownBy x T.ZF)(b:T.ZF=some n∨H.heap.size<=n):gn H x T ⟨some (aD n),c⟩ :=
 ⟨⟨a.os,a.tape,a.output,a.size,λk d f=>a.block k d (by grind)⟩,by
  rcases b with e | e
  ·exact VS e.symm
  ·exact VO ⟨n,rfl,e⟩⟩
theorem aO.Zr(o:aO H T v)(k:aJ H x):aO x T v:=o.Zw (λq a=>k.block q (o.lt a) (by simp))
structure wC(w wr:World)(h:Hd)(r:gY):Prop where
 ZP:aO wr h r
 far:∀k,h.ZF=some k->w.heap.size<=k
 ZE:aJ w wr
theorem wC.Zr(a:wC H x T v)(k:aJ x N):wC H N T v:=⟨a.ZP.Zr k,a.far,a.ZE.trans k⟩
theorem wC.ZB(a:wC H x T v)(g:gn x N T L)(o:aO N L u):wC H N L u:=by refine⟨o,λk b=>?_,⟨g.ZE.os.trans a.ZE.os,g.ZE.tape.trans a.ZE.tape,g.ZE.output.trans a.ZE.output,VU a.ZE.size g.ZE.size,λk b _=>?_⟩⟩;{rcases g.ZF with e | ⟨q,e,c⟩;{exact a.far k (by grind)};{rw[e]at b;cases b;exact VU a.ZE.size c}};{rw[g.ZE.block k (VD b a.ZE.size) (λc=>by have:=a.far _ (so c);omega),a.ZE.block k b (by simp)]}
theorem gn.beside(b:gn H x T L)(a:aO H g v)(c:∀k,g.ZF=some k->T.ZF≠some k):aO x g v :=
 a.Zw (λq d=>b.ZE.block q (a.lt d) (by grind))
theorem jD{P:Program}{k:Array Oper}{d:List Oper}{o:Oper}{a:Act}{l:Exit->Act->World->Prop}(N:o.guard=none)(s x:Operand)(t:TypeId)(v:o.op=Op.call { callee:=Callee.builtin Builtin.append,args:=#[s,x],argTypes:=#[t,t] })(i:TypeInfo)(z:Value)(c:Nat)(h:Hd)(r:gY)(b:List Value)(D:P.underlying t=some (.slice r.e))(E:P.info? r.e=some i)(F:i.zero=some z)(G:i.size=r.size)(H:i.bytes=c)(I:z.cells.size=r.size)(K:0<r.size)(O:a.eval s=Q h.ao r.n h.cap)(j:aO y h r)(T:r.n<=1000000)(M:c<=1000)(R:a.eval x=Q (some (aD y.heap.size)) 1 1)(V:b.length=r.size)(p:∀u∈b,u.oneCell'=true)(L:∀m A,aO A m ⟨r.e,r.size,r.n+1,r.xs++b⟩->gn y A h m->wpList P k l d (a.put o.dst (Q m.ao (r.n+1) m.cap)) A) :
  wpList P k l (o :: d) a (y.alloc (aK b.toArray r.e)):=by have B:aJ y (y.alloc (aK b.toArray r.e)):=bH.alloc _;have U:(y.alloc (aK b.toArray r.e)).heap[y.heap.size]?=some (aK b.toArray r.e):=Vx _ _;refine aF _ N s x t v i z c h r D E F G H I K O (j.Zr B) (aD y.heap.size) 1 1 b R (by omega) ?_ p VG (by unfold maxLen;omega) (VU (WP (show r.n+1<=1000001 by omega) M) (by omega)) ?_;{simp[bD,ay]};{intro C f S w g q;exact L ⟨some (aD C),f⟩ S w ((gn.Zr B).trans (gn.made g q))}
theorem wC.two{f:gY}(a:wC H x T v)(b:wC H x g f)(j:∀k,T.ZF=some k->g.ZF≠some k)(c:gn x N T L)(o:aO N L u):wC H N L u/\wC H N g f/\∀k,L.ZF=some k->g.ZF≠some k:=by have d:=a.ZB c o;refine⟨d,⟨c.beside b.ZP (by grind),b.far,d.ZE⟩,λk l i=>?_⟩;rcases c.ZF with e | ⟨q,e,m⟩;{grind};{have:=b.ZP.lt i;grind}
def qs(w:World)(g:Nat)(sn:List Bool):Prop:=w.heap[g]?=some (aK (sn.map bool).toArray 4)
theorem qs.cell(h:qs H n s)(k:Nat)(b:Bool)(a:s[k]?=some b):H.cell? (X n k)=some (bool b):=by rw[ay h];simp[a]
theorem qs.ZE{S:Vu}(h:qs H n s)(k:ab S H x)(a:n∉S):qs x n s:=k.get h a
theorem qs.set(h:qs H n s)(k:Nat):qs (H.setCell (X n k) (bool true)) n (s.set k true):=by unfold qs;rw[ac h];simp
theorem zef:(prog.info? 4).map (λi=>(i.zero,i.size,i.bytes))=some (some (bool false),1,1):=by kernel_rfl
theorem Lk:madeCells (bool false).cells (l*1)=((List.replicate l false).map bool).toArray:=by rw[Zf];apply Zk;{rw[WN];simp};{intro i a b;have e:(bool false).cells=#[bool false]:=rfl;simp[madeCells,e,Nat.mod_one]}
theorem xD(p:Nat->Bool)(k:Nat):(List.range (k+1)).filter p=(List.range k).filter p++(if p k=true then [k] else []):=by rw[Wi,Wf];grind
def Ak(bo:Option Nat):Vt:=bo.map (λb=>(aD b))
structure oe(w:World)(bo:Option Nat)(L:Vs):Prop where
 nil:bo=none ↔ L=[]
 ZF:∀b,bo=some b->w.heap[b]?=some (aK (strs L).toArray 9)
theorem aO.putAt(o:aO H T v)(d:T.ao=some (aD n))(j:Nat)(b:Value):aO (H.setCell (X n j) b) T ⟨v.e,v.size,v.n,v.xs.set j b⟩:=by refine⟨by rw[Yn];exact o.1,?_⟩;rcases o.2 with ⟨f,u⟩ | ⟨s,c,a,f,m,p,i,k,t,l⟩;{grind};{injection f with g q r;rw[g]at d;cases d;refine VO ⟨n,c,a.setIfInBounds j b,by grind,m,by rw[ac p],i,k,by grind,?_⟩;rw[X8];(show(a.toList.set j b).take (v.n*v.size)=v.xs.set j b);rw[<-l,Y2]}
theorem iH(o:aO H T v)(f:0<v.n):∃g,T.ao=some (aD g)/\g<H.heap.size/\v.n<=T.cap:=by rcases o.ZC with ⟨_,e,_⟩ | ⟨g,a,b,c,d,-⟩;{omega};grind
def wD(w:World)(ao:Vt)(L:Vu):Prop:=∀(k n:Nat),L[k]?=some n->∃g,ao=some (aD g)/\g<w.heap.size/\w.cell? (X g k)=some (Y n)
theorem wD.Zr{L:Vu}(h:wD H z3 L)(k:aJ H x):wD x z3 L:=by intro j d c;obtain⟨g,e,a,b⟩:=h j d c;exact⟨g,e,VD a k.size,cEb (k.block g a (by simp)) b⟩
theorem SZ:(prog.info? 3).map (λi=>(i.zero,i.size,i.bytes))=some (some (Y 0),1,8):=by kernel_rfl
def Cq{α:Type}(e s:Nat)(f:α->List Value)(L:List α):gY:=⟨e,s,L.length,L.flatMap f⟩
theorem zcs{α:Type}{f:α->List Value}(d:∀x,(f x).length=n)(L:List α)(j:Nat)(t:α)(h:L[j]?=some t)(c:Nat)(b:c<n):(L.flatMap f)[j*n+c]?=(f t)[c]?:=by induction L generalizing j with|nil=>cases h|cons a L e=>{rw[WM];cases j with|zero=>grind|succ j=>grind}
theorem DC{α:Type}(f:α->List Value)(L:List α)(x:α):(⟨(Cq b l f L).e,(Cq b l f L).size,(Cq b l f L).n+1,(Cq b l f L).xs++f x⟩:gY)=Cq b l f (L++[x]):=by simp[Cq]
def uA{α:Type}(w:World)(ao:Vt)(s:Nat)(f:α->List Value)(L:List α):Prop:=∀(k:Nat) (x:α),L[k]?=some x->∃g,ao=some (aD g)/\g<w.heap.size/\∀(c:Nat) (u:Value),(f x)[c]?=some u->w.cell? (X g (k*s+c))=some u
theorem uA.Zr{α:Type}{f:α->List Value}{L:List α}(h:uA H z3 n f L)(k:aJ H x):uA x z3 n f L:=by intro j l d;obtain⟨g,e,a,b⟩:=h j l d;exact⟨g,e,VD a k.size,λc u i=>cEb (k.block g a (by simp)) (b c u i)⟩
theorem aO.srcG{α:Type}{f:α->List Value}{L:List α}(o:aO H T (Cq n D f L))(j:∀x,(f x).length=D):uA H T.ao D f L:=by (intro k x d;have e:=(VV.1 d).1;obtain⟨g,a,b,-⟩:=iH o (show 0<L.length by omega);refine⟨g,a,b,λc u l=>o.cell a (k*D+c) u ?_⟩;have i:c<D:=by grind);(show(L.flatMap f)[k*D+c]?=some u);grind [zcs]
theorem Pe:madeCells (Y 0).cells (l*1)=(iG (List.replicate l 0)).toArray:=by rw[Zf];apply Zk;{rw[WN];simp[iG]};{intro i a b;have e:(Y 0).cells=#[Y 0]:=rfl;simp[madeCells,e,Nat.mod_one,iG]}
def zfj(w:World)(g:Nat)(L:Vu):Prop:=w.heap[g]?=some (aK (iG L).toArray 3)
def BD(vs:Vs):Prop:=∀i j,i<j->j<vs.length->((vs.getD i ⟨#[]⟩).toList==(vs.getD j ⟨#[]⟩).toList)=false
theorem BD.ne(h:BD k){i j:Nat}(b:i<k.length)(c:j<k.length)(d:i≠j):((k.getD i ⟨#[]⟩).toList==(k.getD j ⟨#[]⟩).toList)=false:=by rcases Yq d with a | a;{exact h i j a c};{have:=h j i a b;grind}
theorem wT(h:BD k)(a:n<k.length)(x:Vq):aG k x=some n ↔ ((k.getD n ⟨#[]⟩).toList==x.toList)=true:=by unfold aG;constructor;{grind};{intro e;rw[List.find?_eq_some_iff_getElem];refine⟨e,n,by grind,by simp,λj b=>?_⟩;rw[List.getElem_range];have:=h.ne (i:=j) (j:=n) (by omega) a (by omega);grind}
section
variable {d:Db}
def vr(s:St):Vq:=s.Zm.getD 1 ⟨#[]⟩
structure FlD(d:Db):Prop where
 fl:∀(n:Nat) (s:St),d.ZD[n]?=some s->s.ZG=2->s.Zm.length=2
 ds:∀(n m:Nat) (s u:St),d.ZD[n]?=some s->d.ZD[m]?=some u->s.ZG=2->u.ZG=2->n<m->(s.til=0∨m<s.til)->((vr s).toList==(vr u).toList)=false
 op:d.ZG=2->2<=d.Zm.length->bu d.Zy (d.Zm.getD 1 ⟨#[]⟩)=false/\d.Zm.length=2
theorem FlD.vsd(F:FlD d):BD (bW d.ZD (ae d.ZD n)):=by (have p:(ae d.ZD n).Pairwise (λa m=>a<m/\a∈ae d.ZD n/\m∈ae d.ZD n):=by have h:(ae d.ZD n).Pairwise (· < ·):=List.Pairwise.filter _ List.pairwise_lt_range;exact h.imp_of_mem (by grind));(have q:(bW d.ZD (ae d.ZD n)).Pairwise (λx y=>(x.toList==y.toList)=false):=by (unfold bW;refine List.Pairwise.filterMap _ (λa m h x v y w=>?_) p;obtain⟨e,o,l⟩:=h;have b:∀a x,a∈ae d.ZD n->ip d.ZD a=some x->∃s,d.ZD[a]?=some s/\s.ZG=2/\x=vr s/\cL d.ZD a n=true:=by grind [ip,ar,vr,ae,eC,fp]);obtain⟨s,r,z,rfl,f⟩:=b a x o v;obtain⟨u,t,A,rfl,g⟩:=b m y l w;refine F.ds a m s u r t z A e ?_;grind [cL]);intro i j c k;have:=YX.1 q i j (by omega) k c;grind
end
def MR(L:Vs)(c:Int)(w:World)(e:Ending)(w':World):Prop:=∃bo,e=cA (tuple #[Q (Ak bo) L.length L.length,Y c])/\oe w' bo L/\(∀b,bo=some b->w.heap.size<=b)/\aJ w w'
theorem UG:(⟨(aw a).e,(aw a).size,(aw a).n+t.length,(aw a).xs++strs t⟩:gY)=aw (a++t):=by simp[aw,strs]
end Go.Proofs.YtnbalopedcgpcaaGreat

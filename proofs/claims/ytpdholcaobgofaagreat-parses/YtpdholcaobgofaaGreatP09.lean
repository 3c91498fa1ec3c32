import Derived.Laws.OwnMore
import Derived.Test.YtpdholcaobgofaaGreatP08
namespace Go.Proofs.YtpdholcaobgofaaGreat
open Go.RowKit Tryz
open Value IntKind Ending
set_option linter.all false
set_option maxHeartbeats 0
variable{b S L:World}{w g:Nat}{z3:List St}{n I N:U}{y z6:eR}{c:List Bool}{M:VB}{z7:Vz}{D:Vy}(m s x:Nat)(H:List St)(z2:Nat->U)(T:Vy)(k:List Bool)(z4:Nat)(z5:Vx)(o:World)(v:Nat)(t:VB)(l:Nat)
abbrev Pr:=ByteArray×ByteArray
def prV(p:Pr):List Value:=[Y p.1,Y p.2]
def zd4(l:List Pr):List Value:=l.flatMap prV
def mT(l:List Pr):eR:=⟨227,2,l.length,zd4 l⟩
theorem Lp(l:List Pr)(x:Pr):(⟨(mT l).e,(mT l).size,(mT l).n+1,(mT l).xs++[Y x.1,Y x.2]⟩:eR)=mT (l++[x]):=by simp[mT,zd4,prV]
theorem zcz:(prog.info? 227).map (λi=>(i.zero,i.size,i.bytes))=some (some (agg #[bN,bN]),2,32):=by kernel_rfl
def gD(vs:Vy)(i:Nat):Vx:=vs.getD i ⟨#[]⟩
def qq(vs:Vy)(ms:List Bool)(i k:Nat):List Pr:=((List.range k).filter (λj=>decide (i<j)&&fU vs.length ms i j)).map (λj=>(gD vs i,gD vs j))
def yi(vs:Vy)(ms:List Bool)(i:Nat):List Pr:=(List.range i).flatMap (λi=>qq vs ms i vs.length)
def Pv(vs:Vy)(ms:List Bool):List Pr:=yi vs ms vs.length
theorem Ld:qq T k l (l+1)=[]:=by unfold qq;rw[List.map_eq_nil_iff,WY];grind
theorem Pq(a:v<l)(h:fU T.length k v l=true):qq T k v (l+1)=qq T k v l++[(gD T v,gD T l)]:=by unfold qq;rw[Wo,Wk,Wg];grind
theorem Tw(h:fU T.length k v l=false):qq T k v (l+1)=qq T k v l:=by unfold qq;rw[Wo,Wk,Wg];simp[h]
theorem DH:yi T k (l+1)=yi T k l++qq T k l T.length:=by unfold yi;rw[Wo,WM];simp
theorem DF:(qq T k v l).length<=l:=by grind [qq,fU]
theorem Ty(i:Nat):(yi T k i).length<=i*T.length:=by induction i with|zero=>simp[yi]|succ i a=>grind [DH,DF]
def xj(vs:Vy)(ms:List Bool)(i j:Nat):List Pr:=yi vs ms i++qq vs ms i j
theorem Tu(a:v<=10000)(b:T.length<=10000)(f:l<=10000):(xj T k v l).length<=100010000:=by unfold xj;rw[VQ];have c:=Ty T k v;have d:=DF T k v l;have e:v*T.length<=10000*10000:=Wm a b;omega
set_option maxRecDepth 100000
theorem Iz(hw:U)(a:Vy)(w:World)(h:eW w m s H z2)(ok:i9 H)(hO:aK w hw (aG a))(D:a.length<=10000) :
  aU 180 #[pointer (some (X m s)),J x,Q hw.ao a.length hw.cap] w λe w'=>∃l:U,e=cM (Q l.ao (Pv a (iy H x a)).length l.cap)/\aK w' l (mT (Pv a (iy H x a)))/\(∀c,l.Y0=some c->w.heap.size<=c)/\aI w w':=by have⟨i0,hi,aS,aT,a0⟩:=VT zcz;have L:Z _:=JX m s x H z2 hw a w h ok hO D;have t:(iy H x a).length=a.length*a.length:=mh H x a _;generalize iy H x a=b at *;have⟨AO,K⟩:=aX (hw.ao);rw[K.o]at L ⊢;go_enter func180,ntmps180;go_wp2_with fail;refine VL L ?_;rintro e w1 ⟨tb,hv,hm,rfl,ap,bc,bd,k1⟩;go_wp2;go_loopg [8,9] a.length (λgk sv i wr=>∃(k:Nat) (l:U),k<=a.length/\gk=a.length-k/\i=J k/\sv=Q l.ao (yi a b k).length l.cap/\aK wr l (mT (yi a b k))/\(∀c,l.Y0=some c->w1.heap.size<=c)/\aI w1 wr);{exact⟨0,⟨none,0⟩,by omega,by omega,rfl,rfl,VH _ _ _ _,by grind [U.Y0],O.refl ..⟩};obtain⟨k,l,hk,hg,rfl,rfl,F,hN,hK⟩:=hrel;by_cases C:k<a.length;{(have ag:Z _:=DH a b k;have HZ:Z _:=Ld a b k;have HB:Z (xj a b k (k+1)=yi a b k):=by show yi a b k++_=_;rw[HZ.o,V8]);have HE:Z (xj a b k a.length=yi a b (k+1)):=ag.o.symm;go_wp2_with fail;go_loopg [8,10] (a.length-(k+1)) (λam a1 i2 af=>∃(j:Nat) (d:U),k<j/\j<=a.length/\am=a.length-j/\i2=J j/\a1=Q d.ao (xj a b k j).length d.cap/\aK af d (mT (xj a b k j))/\(∀c,d.Y0=some c->w1.heap.size<=c)/\aI w1 af);{exact⟨k+1,l,by omega,by omega,rfl,by go_num,by rw[HB.o],by rw[HB.o];exact F,hN,hK⟩};obtain⟨j,d,az,hj,jy,rfl,rfl,q,p,g⟩:=hrel;clear F hN hK;have a5:=Tu a b k j (by omega) D (by omega);by_cases B:j<a.length;{have T:=ap.YM g;have v:=hO.YR (λc hx=>(k1.trans g).block c (hO.lt hx) (by simp));rcases v.YX with ⟨_,h0,_⟩ | ⟨o,a2,ev,S,a4,-⟩;{have:a.length=0:=h0;omega};(have ai:=v.cell ev k (Y a[k]) (by simp[aG,dA,C]);have al:=v.cell ev j (Y a[j]) (by simp[aG,dA,B]);have a3:=hO.lt (k:=o) (by unfold U.Y0;rw[ev];rfl);have aq:AO=some (aE o):=(by rwa [<-K.o]);subst aq;have ac:=ae S;have W:gD a k=a[k]:=iZ a k C;have V:gD a j=a[j]:=iZ a j B;have HY:Z (fU a.length b k j=true->xj a b k (j+1)=xj a b k j++[(gD a k,gD a j)]):=λhp=>by unfold xj;rw[Pq a b k j az hp,Xk]);(have E:Z (fU a.length b k j=false->xj a b k (j+1)=xj a b k j):=λhp=>by unfold xj;rw[Tw a b k j hp]);(rw[W,V]at HY;clear W V S v;have ba:(k:Int)<a.length:=by omega);have a7:(j:Int)<a.length:=(by omega);have a8:(0:Int)<=k:=(by omega);have a6:(0:Int)<=j:=(by omega);generalize a[k]=c at *;generalize a[j]=y at *;cases A:fU a.length b k j;{have M:Z _:=E A;clear HY E;go_wp2_with (go_at_call 214;refine de (uk tb a b hv hm k j _ (by exact T) t D C B) λw9 G=>?_;rw[G,A]);go_roundg (a.length-(j+1));{exact⟨j+1,d,by omega,by omega,rfl,by go_num,by rw[M.o],by rw[M.o];exact q,p,g⟩};omega};{(have M:Z _:=HY A;clear HY E;generalize xj a b k j=P at *;have s3:Z (∀u∈([Y c,Y y]:List Value),u.oneCell'=true):=by intro u hu;simp at hu;rcases hu with rfl | rfl <;> rfl);(have s4:Z ((mT P).n+1<=maxLen):=(by show _<=_;simp[mT];unfold maxLen;omega);have s5:Z (((mT P).n+1)*32<=140737488355328):=(by show _<=_;simp[mT];omega);have N:Z (aI wr (wr.alloc (aJ #[Y c,Y y] 227)).drew):=((O.refl [] wr).alloc _).drew;have hD:Z _:=q.YR (λz hz=>N.o.block z (q.lt hz) (by simp));have s2:Z (∀j u,([Y c,Y y]:List Value)[j]?=some u->(wr.alloc (aJ #[Y c,Y y] 227)).drew.cell? (((aE wr.heap.size):Addr).add j)=some u):=by intro j u hj;rw[bO];have hk:(wr.alloc (aJ #[Y c,Y y] 227)).drew.heap[wr.heap.size]?=some (aJ #[Y c,Y y] 227):=VD _ _;rw[aC hk];simpa using hj);(have HS:Z (∀I,(wr.alloc (aJ #[Y c,Y y] 227)).drew.grownBy I d.Y0->I.cell? (X o k)=some (Y c)/\I.cell? (X o j)=some (Y y)):=by intro I ax;have e:I.heap[o]?=wr.heap[o]?:=(ax.block o (VG ac N.o.size) (λe=>by have:=p o e.symm;have:=k1.size;omega)).trans (N.o.block o ac (by simp));exact⟨po e ai,po e al⟩);((go_upto_region 10 with (go_at_call 214;refine de (uk tb a b hv hm k j _ (by exact T) t D C B) λw9 G=>?_;rw[G,A]));go_region_held3 (λw'=>w'.cell? (X o k)=some (Y c)/\w'.cell? (X o j)=some (Y y)) (go_keep) ((refine bL (by rfl) (.tmp 33) (.tmp 43) 221 (by rfl) i0 (agg #[bN,bN]) 32 d (mT P) underlying221 hi aS aT a0 rfl XW (by rfl) hD (aE wr.heap.size) 1 1 [Y c,Y y] (by rfl) rfl s2 s3 VP s4 s5 ?_;intro g5 R I ad r f;obtain⟨q1,q2⟩:=HS I r));rw[Lp P (c,y),<-M.o]at ad;have av:=(g.trans N).grown r p;have dm:w1.heap.size<=g5:=by rcases f with e | e;{exact p g5 e};{have:=(g.trans N).size;simp at e this;omega});have ar:Z ((mT P).n+1=(xj a b k (j+1)).length):=cI (by rw[M.o];simp[mT]);rw[ar.o];clear r f q1 q2;go_wp2;go_roundg (a.length-(j+1));{exact⟨j+1,⟨some (aE g5),R⟩,by omega,by omega,rfl,by go_num,rfl,ad,by intro c hx;simp[U.Y0]at hx;omega,av⟩};omega}};{have e:j=a.length:=(by omega);subst e;rw[HE.o]at q ⊢;go_wp2;go_roundg (a.length-(k+1));{exact⟨k+1,d,by omega,rfl,by go_num,rfl,q,p,g⟩};omega}};{(have e:k=a.length:=by omega);subst e;go_wp2;go_ret;exact⟨l,rfl,F,λc hx=>by have:=hN c hx;have:=k1.size;omega,k1.trans hK⟩}
def pH(l:List St)(a:Nat):List Pr:=Pv (gy l (aY l a)) (iy l a (gy l (aY l a)))
def M7(l:List St)(n:Nat):Vx:=match l[n]? with | some s=>zbT s | none=>⟨#[]⟩
def jU(p:Pr):Vx:=⟨#[36,100,32]⟩++p.1++⟨#[32]⟩++p.2
def A6(l:List St)(a:Nat):Vy:=(aY l a).map (M7 l)++(pH l a).map jU++[M7 l a]
theorem EZ(h:l∈aY H v):l<H.length:=by grind [aY,gU]
theorem tE:(aY H l).length<=H.length:=by grind [aY,gU,pD,iI]
theorem Oy:(gy H t).length<=t.length:=Yo ..
theorem zcS(h:eW o m s H z2)(P:x<H.length)(q:i9 H) :
  aU 134 #[pointer (some (X m s)),J x] o λe D=>∃a b:U,e=cM (agg #[Q a.ao (aY H x).length a.cap,Q b.ao (pH H x).length b.cap])/\aK D a (bZ (aY H x))/\aK D b (mT (pH H x))/\(∀k,a.Y0=some k∨b.Y0=some k->o.heap.size<=k)/\aI o D:=by
 have G:=q.len;have R:=tE H x;have af:=Oy H (aY H x);have t:Z _:=λi (n:i∈aY H x)=>EZ H x i n;have I:Z (pH H x=Pv (gy H (aY H x)) (iy H x (gy H (aY H x)))):=rfl;have⟨W,B⟩:∃W,W=o.alloc (aJ #[Q none 0 0,Q none 0 0] 223):=⟨_,rfl⟩
 have p:=dI B.symm;have F:=dL B.symm;have K:Z _:=B.symm;have d:=h.YM p;have r:Z _:=mA m s x H z2 W d P q;go_enter func134,ntmps134;go_wp2_with fail;rw[K.o];refine VL r ?_;rintro e w1 ⟨a,rfl,c,L,f⟩;go_wp2_with fail;refine(zz m s H z2 (aY H x) a w1 (d.YM f) q c (by omega) t).mono ?_;rintro e w2 ⟨hv,rfl,A,M,g⟩;go_wp2_with fail;refine(Iz m s x H z2 hv (gy H (aY H x)) w2 ((d.YM f).YM g) q A (by omega)).mono ?_;rintro e E ⟨b,rfl,l,N,C⟩;rw[<-I.o]at l ⊢;have j:=((f.trans g).trans C).gt F;have z:aI o E:=((p.trans f).trans g).trans C;have V:=(p.trans f).size;have ac:=((p.trans f).trans g).size;have S:=f.size;have T:=g.size;have ad:=ae F;have⟨z0,z1⟩:=vG j;have yf:=au j;have w:Z (∀u v,aK ((E.setCell (aE o.heap.size) u).setCell (X o.heap.size 1) v) a (bZ (aY H x))):=λu v=>(c.YR (λi n=>(g.trans C).block i (c.lt n) (by simp))).YR (λi n=>(VN _ _ _ _ (by grind)).trans (VN _ _ _ _ (by grind)));have y:Z (∀u v,aK ((E.setCell (aE o.heap.size) u).setCell (X o.heap.size 1) v) b (mT (pH H x))):=λu v=>l.YR (λi n=>(VN _ _ _ _ (by grind)).trans (VN _ _ _ _ (by grind)));go_wp2;exact VJ (v:=agg #[Q a.ao (aY H x).length a.cap,Q b.ao (pH H x).length b.cap]) (by simp[results,results134,go_sem,z0,z1]) rfl
  ⟨a,b,rfl,w ..,y ..,by grind,
   (z.sr1 (VC _) _).sr1 (VC _) _⟩
theorem Jj:dA (T.set z4 z5)=(dA T).set z4 (Y z5):=by simp[dA]
theorem sV.recd{a:Fs}{H:Nat->U}(h:sV b w a z3 H g):eW b w 10 z3 H:=by have⟨d,f,e,c⟩:=h.ver;exact⟨⟨_,_,c.1,rfl⟩,h.YY⟩
set_option maxRecDepth 512
theorem PQ(l:List St)(H:Nat->U)(w:World)(h:eW w x z4 l H)(b:l.length<=1073741824) :
  aU 89 #[pointer (some (X x z4)),Y z5] w (kt (J (ji (iK l z5))) w):=by have a:Z _:=wS x z4 z5 l H w h b;go_enter func89,ntmps89;go_wp2_with fail;refine VL a ?_;rintro e d ⟨rfl,c⟩;go_wp2;go_ret;exact⟨rfl,c⟩
theorem QE(m:Fs)(c:List St)(H:Nat->U)(g:Nat)(b:Vx)(w:World)(h:sV w l m c H g)(o:c.length<=1073741824) :
  aU 58 #[bh l,Y b] w (kt (match iK c b with | some n=>.tuple #[J n,J 0] | none=>.tuple #[J 0,J 8]) w):=by have a:Z _:=PQ l 10 b c H w h.recd o;have⟨r,u,s,p⟩:=h.ver;have⟨t,i,j,k⟩:=kH.cells p;cases f:iK c b with|none=>rw[f]at a;simp only[ji]at a;go_enter func58,ntmps58;go_wp2_with fail;refine VL a ?_;rintro e q ⟨rfl,d⟩;go_wp2;go_ret2;exact⟨rfl,d⟩|some n=>rw[f]at a;simp only[ji]at a;go_enter func58,ntmps58;go_wp2_with fail;refine VL a ?_;rintro e q ⟨rfl,d⟩;go_wp2;go_ret2;exact⟨rfl,d⟩
theorem GN{a:Vx}(h:iK z3 a=some w):∃h:w<z3.length,uU z3[w].Y1=true/\z3[w].Y2.toList=a.toList:=by grind [iK,Dx]
structure bU(w w':World)(h h':U):Prop where
 YZ:O h.Y0.toList w w'
 Y0:h'.Y0=h.Y0∨∃g,h'.Y0=some g/\w.heap.size<=g
theorem bG(a:w∈n.Y0.toList):n.Y0=some w:=by grind
theorem bU.YM(k:aI b S):bU b S n n:=⟨k.mono (by simp),VY rfl⟩
theorem bU.trans{w1:World}(a:bU b w1 n I)(c:bU w1 S I N):bU b S n N:=by refine⟨⟨c.YZ.os.trans a.YZ.os,c.YZ.tape.trans a.YZ.tape,c.YZ.output.trans a.YZ.output,VK a.YZ.size c.YZ.size,λk i j=>?_⟩,?_⟩;{rw[c.YZ.block k (VG i a.YZ.size) (λl=>?_),a.YZ.block k i j];have e:=bG l;rcases a.Y0 with d | ⟨g,d,f⟩;{grind};grind};{rcases c.Y0 with e | ⟨g,e,f⟩;{rcases a.Y0 with d | ⟨g,d,f⟩;{grind};grind};{exact VW ⟨g,e,VK a.YZ.size f⟩}}
theorem bU.made(a:b.grownBy S n.Y0)(c:n.Y0=some w∨b.heap.size<=w):bU b S n ⟨some (aE w),g⟩ :=
 ⟨⟨a.os,a.tape,a.output,a.size,λk d f=>a.block k d (by grind)⟩,by
  rcases c with e | e
  ·exact VY e.symm
  ·exact VW ⟨w,rfl,e⟩⟩
theorem aK.YM(o:aK b n y)(k:aI b S):aK S n y:=o.YR (λq a=>k.block q (o.lt a) (by simp))
structure iz(w wr:World)(h:U)(r:eR):Prop where
 Za:aK wr h r
 far:∀k,h.Y0=some k->w.heap.size<=k
 YZ:aI w wr
theorem iz.YM(a:iz b S n y)(k:aI S L):iz b L n y:=⟨a.Za.YM k,a.far,a.YZ.trans k⟩
theorem iz.YW(a:iz b S n y)(g:bU S L n I)(o:aK L I z6):iz b L I z6:=by refine⟨o,λk c=>?_,⟨g.YZ.os.trans a.YZ.os,g.YZ.tape.trans a.YZ.tape,g.YZ.output.trans a.YZ.output,VK a.YZ.size g.YZ.size,λk c _=>?_⟩⟩;{rcases g.Y0 with e | ⟨q,e,d⟩;{exact a.far k (by grind)};{rw[e]at c;cases c;exact VK a.YZ.size d}};{rw[g.YZ.block k (VG c a.YZ.size) (λd=>by have:=a.far _ (bG d);omega),a.YZ.block k c (by simp)]}
theorem iz.base(a:iz S L n y)(k:aI b S):iz b L n y:=⟨a.Za,λq c=>VK k.size (a.far q c),k.trans a.YZ⟩
theorem bU.beside(g:bU b S n I)(a:aK b N y)(c:∀k,N.Y0=some k->n.Y0≠some k):aK S N y :=
 a.YR (λq d=>g.YZ.block q (a.lt d) (by grind))
theorem rt{P:Program}{k:Array Oper}{d:List Oper}{p:Oper}{a:Act}{l:Exit->Act->World->Prop}(N:p.guard=none)(s x:Operand)(t:TypeId)(w:p.op=Op.call { callee:=Callee.builtin Builtin.append,args:=#[s,x],argTypes:=#[t,t] })(i:TypeInfo)(z:Value)(c:Nat)(h:U)(r:eR)(b:List Value)(D:P.underlying t=some (.slice r.e))(E:P.info? r.e=some i)(F:i.zero=some z)(G:i.size=r.size)(H:i.bytes=c)(I:z.cells.size=r.size)(K:0<r.size)(R:a.eval s=Q h.ao r.n h.cap)(j:aK o h r)(V:r.n<=1000000)(M:c<=1000)(S:a.eval x=Q (some (aE o.heap.size)) 1 1)(hn:b.length=r.size)(q:∀u∈b,u.oneCell'=true)(L:∀m A,aK A m ⟨r.e,r.size,r.n+1,r.xs++b⟩->bU o A h m->wpList P k l d (a.put p.dst (Q m.ao (r.n+1) m.cap)) A) :
  wpList P k l (p :: d) a (o.alloc (aJ b.toArray r.e)):=by have B:aI o (o.alloc (aJ b.toArray r.e)):=bQ.alloc _;have W:(o.alloc (aJ b.toArray r.e)).heap[o.heap.size]?=some (aJ b.toArray r.e):=VD _ _;refine a9 _ N s x t w i z c h r D E F G H I K R (j.YM B) (aE o.heap.size) 1 1 b S (by omega) ?_ q VP (by unfold maxLen;omega) (VK (Wm (show r.n+1<=1000001 by omega) M) (by omega)) ?_;{simp[bO,aC]};{intro C f T y g v;exact L ⟨some (aE C),f⟩ T y ((bU.YM B).trans (bU.made g v))}
theorem iz.two{f:eR}(a:iz b S n y)(c:iz b S N f)(j:∀k,n.Y0=some k->N.Y0≠some k)(g:bU S L n I)(o:aK L I z6):iz b L I z6/\iz b L N f/\∀k,I.Y0=some k->N.Y0≠some k:=by have d:=a.YW g o;refine⟨d,⟨g.beside c.Za (by grind),c.far,d.YZ⟩,λk l i=>?_⟩;rcases g.Y0 with e | ⟨q,e,m⟩;{grind};{have:=c.Za.lt i;grind}
def lq(w:World)(g:Nat)(sn:List Bool):Prop:=w.heap[g]?=some (aJ (sn.map bool).toArray 4)
theorem lq.cell(h:lq b w c)(k:Nat)(a:Bool)(d:c[k]?=some a):b.cell? (X w k)=some (bool a):=by rw[aC h];simp[d]
theorem lq.YZ(h:lq b w c)(k:O M b S)(a:w∉M):lq S w c:=k.get h a
theorem lq.set(h:lq b w c)(k:Nat):lq (b.setCell (X w k) (bool true)) w (c.set k true):=by unfold lq;rw[ab h];simp
theorem Su:(prog.info? 4).map (λi=>(i.zero,i.size,i.bytes))=some (some (bool false),1,1):=by kernel_rfl
theorem Ba:madeCells (bool false).cells (l*1)=((List.replicate l false).map bool).toArray:=by rw[XZ];apply Array.ext;{rw[Wq];simp};{intro i a b;have e:(bool false).cells=#[bool false]:=rfl;simp[madeCells,e,Nat.mod_one]}
theorem jC(p:Nat->Bool)(k:Nat):(List.range (k+1)).filter p=(List.range k).filter p++(if p k=true then [k] else []):=by rw[Wo,Wk];grind
def A8(bo:Option Nat):Vz:=bo.map (λb=>(aE b))
structure zo(w:World)(bo:Option Nat)(L:Vy):Prop where
 nil:bo=none ↔ L=[]
 Y0:∀b,bo=some b->w.heap[b]?=some (aJ (dA L).toArray 9)
theorem aK.putAt(o:aK b n y)(d:n.ao=some (aE w))(j:Nat)(v:Value):aK (b.setCell (X w j) v) n ⟨y.e,y.size,y.n,y.xs.set j v⟩:=by refine⟨by rw[Wu];exact o.1,?_⟩;rcases o.2 with ⟨f,u⟩ | ⟨s,c,a,f,m,p,i,k,t,l⟩;{grind};{injection f with g q r;rw[g]at d;cases d;refine VW ⟨w,c,a.setIfInBounds j v,by grind,m,by rw[ab p],i,k,by grind,?_⟩;rw[Xx];(show(a.toList.set j v).take (y.n*y.size)=y.xs.set j v);rw[<-l,Yn]}
theorem uC(o:aK b n y)(i:0<y.n):∃g,n.ao=some (aE g)/\g<b.heap.size/\y.n<=n.cap:=by rcases o.YX with ⟨_,f,_⟩ | ⟨g,a,c,d,e,-⟩;{omega};grind
def nP(w:World)(ao:Vz)(L:VB):Prop:=∀(k n:Nat),L[k]?=some n->∃g,ao=some (aE g)/\g<w.heap.size/\w.cell? (X g k)=some (J n)
theorem nP.YM(h:nP b z7 M)(k:aI b S):nP S z7 M:=by intro j x d;obtain⟨g,e,a,c⟩:=h j x d;exact⟨g,e,VG a k.size,po (k.block g a (by simp)) c⟩
theorem aK.srcN(o:aK b n (bZ M)):nP b n.ao M:=by intro k x f;rcases o.YX with ⟨_,c,_⟩ | ⟨g,d,a,e,i,-⟩;{have c:M.length=0:=c;grind};{exact⟨g,a,ae e,o.cell a k (J x) (by simp[bZ,fC,f])⟩}
theorem xm:(⟨(bZ t).e,(bZ t).size,(bZ t).n+1,(bZ t).xs++[J l]⟩:eR)=bZ (t++[l]):=by simp[bZ,fC]
theorem rJ:(prog.info? 3).map (λi=>(i.zero,i.size,i.bytes))=some (some (J 0),1,8):=by kernel_rfl
def lW{α:Type}(e s:Nat)(f:α->List Value)(L:List α):eR:=⟨e,s,L.length,L.flatMap f⟩
theorem zbf{α:Type}{f:α->List Value}(d:∀x,(f x).length=w)(L:List α)(j:Nat)(t:α)(h:L[j]?=some t)(c:Nat)(b:c<w):(L.flatMap f)[j*w+c]?=(f t)[c]?:=by induction L generalizing j with|nil=>cases h|cons a L e=>{rw[List.flatMap_cons];cases j with|zero=>grind|succ j=>grind}
theorem go{α:Type}(f:α->List Value)(L:List α)(x:α):(⟨(lW v l f L).e,(lW v l f L).size,(lW v l f L).n+1,(lW v l f L).xs++f x⟩:eR)=lW v l f (L++[x]):=by simp[lW]
def dg{α:Type}(w:World)(ao:Vz)(s:Nat)(f:α->List Value)(L:List α):Prop:=∀(k:Nat) (x:α),L[k]?=some x->∃g,ao=some (aE g)/\g<w.heap.size/\∀(c:Nat) (u:Value),(f x)[c]?=some u->w.cell? (X g (k*s+c))=some u
theorem dg.YM{α:Type}{f:α->List Value}{L:List α}(h:dg b z7 w f L)(k:aI b S):dg S z7 w f L:=by intro j x i;obtain⟨g,e,a,d⟩:=h j x i;exact⟨g,e,VG a k.size,λc u l=>po (k.block g a (by simp)) (d c u l)⟩
theorem aK.srcG{α:Type}{f:α->List Value}{L:List α}(o:aK b n (lW w g f L))(m:∀x,(f x).length=g):dg b n.ao g f L:=by (intro k x i;have j:=(V4.1 i).1;obtain⟨d,a,e,-⟩:=uC o (show 0<L.length by omega);refine⟨d,a,e,λc u p=>o.cell a (k*g+c) u ?_⟩;have l:c<g:=by grind);(show(L.flatMap f)[k*g+c]?=some u);grind [zbf]
theorem qU:madeCells (J 0).cells (l*1)=(fC (List.replicate l 0)).toArray:=by rw[XZ];apply Array.ext;{rw[Wq];simp[fC]};{intro i a b;have e:(J 0).cells=#[J 0]:=rfl;simp[madeCells,e,Nat.mod_one,fC]}
def cU(w:World)(g:Nat)(L:VB):Prop:=w.heap[g]?=some (aJ (fC L).toArray 3)
theorem cU.src(h:cU b w M):nP b (some (aE w)) M:=by intro k x a;refine⟨w,rfl,ae h,?_⟩;rw[aC h];simp[fC,a]
def wk(vs:Vy):Prop:=∀i j,i<j->j<vs.length->((vs.getD i ⟨#[]⟩).toList==(vs.getD j ⟨#[]⟩).toList)=false
theorem wk.ne(h:wk D){i j:Nat}(b:i<D.length)(c:j<D.length)(d:i≠j):((D.getD i ⟨#[]⟩).toList==(D.getD j ⟨#[]⟩).toList)=false:=by rcases Nat.lt_or_gt_of_ne d with a | a;{exact h i j a c};{have:=h j i a b;grind}
theorem tR(h:wk D)(a:w<D.length)(x:Vx):cJ D x=some w ↔ ((D.getD w ⟨#[]⟩).toList==x.toList)=true:=by unfold cJ;constructor;{grind};{intro e;rw[List.find?_eq_some_iff_getElem];refine⟨e,w,by grind,by simp,λj b=>?_⟩;rw[List.getElem_range];have:=h.ne (i:=j) (j:=w) (by omega) a (by omega);grind}
theorem zM(h:wk D)(b:w<D.length)(a:Vy):(b9 D a).contains w=bb a (D.getD w ⟨#[]⟩):=by grind [b9,bb,tR]
section
variable {d:Db}
def vr(s:St):Vx:=s.YH.getD 1 ⟨#[]⟩
structure uW(d:Db):Prop where
 fl:∀(n:Nat) (s:St),d.YY[n]?=some s->s.Y1=2->s.YH.length=2
 ds:∀(n m:Nat) (s u:St),d.YY[n]?=some s->d.YY[m]?=some u->s.Y1=2->u.Y1=2->n<m->(s.til=0∨m<s.til)->((vr s).toList==(vr u).toList)=false
 op:d.Y1=2->2<=d.YH.length->bb d.YT (d.YH.getD 1 ⟨#[]⟩)=false/\d.YH.length=2
theorem uW.vsd(F:uW d):wk (gy d.YY (aY d.YY w)):=by (have o:(aY d.YY w).Pairwise (λn m=>n<m/\n∈aY d.YY w/\m∈aY d.YY w):=by have h:(aY d.YY w).Pairwise (· < ·):=List.Pairwise.filter _ XM;exact h.imp_of_mem (by grind));(have p:(gy d.YY (aY d.YY w)).Pairwise (λx y=>(x.toList==y.toList)=false):=by (unfold gy;refine List.Pairwise.filterMap _ (λn m h x t y v=>?_) o;obtain⟨c,l,k⟩:=h;have a:∀n x,n∈aY d.YY w->so d.YY n=some x->∃s,d.YY[n]?=some s/\s.Y1=2/\x=vr s/\je d.YY n w=true:=by grind [so,aF,vr,aY,gU,pD]);obtain⟨s,q,z,rfl,e⟩:=a n x l t;obtain⟨u,r,A,rfl,f⟩:=a m y k v;refine F.ds n m s u q r z A c ?_;grind [je]);intro i j b g;have:=Yj.1 p i j (by omega) g b;grind
end
def FrX(L:Vy)(c:Int)(w:World)(e:Ending)(w':World):Prop:=∃bo,e=cM (tuple #[Q (A8 bo) L.length L.length,J c])/\zo w' bo L/\(∀b,bo=some b->w.heap.size<=b)/\aI w w'
theorem By(M:Vy):(⟨(aG T).e,(aG T).size,(aG T).n+M.length,(aG T).xs++dA M⟩:eR)=aG (T++M):=by simp[aG,dA]
end Go.Proofs.YtpdholcaobgofaaGreat

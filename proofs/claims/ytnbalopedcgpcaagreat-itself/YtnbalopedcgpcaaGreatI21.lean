import Derived.Laws.CopyOwn
import Derived.Test.YtnbalopedcgpcaaGreatI18
import Derived.Test.YtnbalopedcgpcaaGreatI20
namespace Go.Proofs.YtnbalopedcgpcaaGreat
open Go.RowKit Tryz
open Value IntKind Ending
set_option linter.all false
set_option maxHeartbeats 0
variable{H G:List Q}{t z2:Nat}{u:Db}{c z7:Q}{K z3 zn:Vs}{D r:Vq}{A z6:List UInt8}{z8:Int}{zz:Vu}{zc:World}(V:Vq)(O:List Q)(U:Nat)(X:Vs)(C:Vq)(z4:World)(zg:Int)(W:Vs)(z1:UInt8)(M:List Q)(z5:Vu)(z9:Nat->Bool)(E:Nat)(I:Vq)(zs:List UInt8)(i:Nat)(ze:Nat->Bool)(z0:Pr)
section
variable {d:Db}
def st0:Q:=⟨0,⟨#[]⟩,[],[],⟨⟨#[]⟩,0,0⟩,0⟩
def U4(l:List Q)(n:Nat):Q:=(l[n]?).getD st0
theorem U5(h:t<H.length):U4 H t=H[t]:=by grind [U4]
theorem PZ(h:z2∈ae H t):z2<H.length/\((U4 H z2).Z3=2∨(U4 H z2).Z3=3):=by grind [ae,eK,U5,Bp,jx]
end
def OU(x:Vq):Prop:=Wd x/\x.size<=1024
theorem ft(a:I.size<=1024):Nm OU (bz I).2:=uO _ I (λk c h b=>⟨qq I k c h b,mz I k a⟩) _ 0 _ (WD _) Nm.empty
theorem Nm.szs(h:Nm OU u):Eu u.ZZ:=by intro s c b;have a:=h.ZZ s c;exact⟨by have:=(a.lab (a.Z3.resolve_left b)).1.2;omega,λx d=>by have:=(a.syms x d).2;omega⟩
theorem sB(h:Wd C):isD (C :: W)=false:=h.notKey 100
theorem yL:isD (⟨#[36,100]⟩ :: W)=true:=by (show((⟨#[36,100]⟩:Vq).toList == [36,100])=true);simp
theorem km:jw (C :: gd zg :: W) z1=((gd zg).toList == [36,z1]):=rfl
theorem C3:gd 2=⟨#[36,102]⟩:=rfl
theorem uC:gd 3=⟨#[36,101]⟩:=rfl
theorem yO:gd 4=⟨#[36,97]⟩:=rfl
theorem yP:gd 5=⟨#[36,112]⟩:=rfl
theorem El:(⟨#[36,z1]⟩:Vq).toList=[36,z1]:=by simp
structure AT(s:Q):Prop where
 lab:Wd s.Z5
 syms:∀x∈s.ZI,Wd x
 pos:0<s.ZI.length
 two:s.Z3=2->s.ZI.length=2
 sz:(dt s).size<=1073741824
theorem Nm.stw(h:Nm OU u)(i:∀s∈u.ZZ,s.ZI.length<=10000)(s:Q)(e:s∈u.ZZ)(d:s.Z3≠1):AT s:=by have a:=h.ZZ s e;have b:=a.Z3.resolve_left d;have⟨c,r,g,_⟩:=a.code b;refine⟨(a.lab b).1.1,λx f=>(a.syms x f).1,by grind,a.two,?_⟩;have:=vQ s (h.szs s e d) s.ZI.length (Vy _);grind [dt]
theorem AT.split(h:AT c):aL (dt c)=c.Z5 :: gd c.Z3 :: c.ZI:=JX c h.lab.noBl (λx a=>(h.syms x a).noBl)
theorem mA(c:gA z0.1)(a:gA z0.2):aL (bU z0)=[⟨#[36,100]⟩,z0.1,z0.2]:=by
 (have e:bU z0=⟨#[36,100]⟩++(⟨#[32]⟩++z0.1)++(⟨#[32]⟩++z0.2):=by (unfold bU;have b:(⟨#[36,100,32]⟩:Vq)=⟨#[36,100]⟩++⟨#[32]⟩:=by rfl);rw[b];simp[ByteArray.append_assoc]);rw[e,o8 _ _ a,o8 _ _ c,iG];{rfl}
 ·intro i d;have a:i<2:=d
  match i,a with
  | 0,_=>rfl
  | 1,_=>rfl
theorem FC(h:AT c)(a:c.Z3=2∨c.Z3=3)(e:Vq)(b:Bool):un e b (dt c):=by have d:=h.split;refine⟨h.sz,by rw[d];have:=h.pos;grind,VH ⟨by rw[d];exact sB _ _ h.lab,?_⟩⟩;rw[d];simp[km];rcases a with a | a;{left;rw[a,C3,El];exact⟨rfl,by have:=h.two a;grind⟩};grind [uC,El]
theorem FD(h:AT c)(e:gX c.Z3=true)(b:Vq)(f:c.Z5.toList=b.toList):un b true (dt c):=by (have d:=h.split;refine⟨h.sz,by rw[d];have:=h.pos;grind,VH ⟨by rw[d];exact sB _ _ h.lab,VH ?_⟩⟩;rw[d];simp only[km];have a:c.Z3=4∨c.Z3=5:=by grind [gX]);(rcases a with a | a <;> rw[a]);{rw[yO,El];exact⟨by decide,VH ⟨by decide,VR rfl,by show(c.Z5.toList==b.toList)=true;grind,by simp⟩⟩};{rw[yP,El];exact⟨by decide,VH ⟨by decide,VH rfl,by show(c.Z5.toList==b.toList)=true;grind,by simp⟩⟩}
theorem C9(c:gA z0.1)(d:gA z0.2)(f:z0.1.size<=100000/\z0.2.size<=100000)(b:Vq)(a:Bool):un b a (bU z0):=by have e:=mA z0 c d;refine⟨?_,by grind,by grind [yL]⟩;grind [bU,Tl,or]
structure mQ(l:List Q)(a:Nat):Prop where
 ha:a<l.length
 isa:gX (l[a]'ha).Z3=true
 Zad:AT (l[a]'ha)
 hyp:∀n∈ae l a,∃h:n<l.length,AT l[n]/\(l[n].Z3=2∨l[n].Z3=3)
 prs:∀p∈bB l a,(gA p.1/\gA p.2)/\p.1.size<=100000/\p.2.size<=100000
theorem tR:gA ⟨#[]⟩:=λi a=>absurd (show i<0 from a) (Nat.not_lt_zero i)
theorem wW(h:∀x∈W,gA x):gA (gD W i):=by unfold gD;rw[Vz];cases e:W[i]? with|none=>exact tR|some x=>exact h x (by grind)
theorem mQ.of(h:Nm OU u)(v:eU u.ZZ)(a:Nat)(o:a<u.ZZ.length)(g:gX u.ZZ[a].Z3=true):mQ u.ZZ a:=by (have l:∀s∈u.ZZ,s.ZI.length<=10000:=λs t=>by obtain⟨i,q,rfl⟩:=WS t;exact v.syms i q);(have d:∀n∈ae u.ZZ a,∃h:n<u.ZZ.length,AT u.ZZ[n]/\(u.ZZ[n].Z3=2∨u.ZZ[n].Z3=3):=λn f=>by have b:=re u.ZZ a n f;have j:=yS u.ZZ a n f b;exact⟨b,h.stw l _ (by simp) (by omega),j⟩);(refine⟨o,g,h.stw l _ (by simp) (by intro e;rw[e]at g;revert g;decide),d,λp r=>⟨?_,zq u.ZZ a h.szs p r⟩⟩;have y:∀x∈cm u.ZZ (ae u.ZZ a),gA x:=by intro x m;unfold cm at m;have⟨n,f,c⟩:=WV.1 m;have⟨b,k,_⟩:=d n f;unfold fN at c;rw[Vv b]at c;simp only at c;split at c;{cases c;unfold az;split;{next w => refine(k.syms _ ?_).noBl;grind};{exact tR}};{cases c});grind [bB,wI,qz,lz,wW]
theorem IJ(h:K[t]?=some D)(a:t<K.length):K[t]=D:=by grind
theorem FF(h:mQ H t)(a:Vq)(n:(H[t]'h.ha).Z5.toList=a.toList)(k:Nat)(b:k<(aH H t).length):un a (decide (k+1=(aH H t).length)) (aH H t)[k]:=by have g:=rg H t;by_cases f:k<(ae H t).length;{have⟨o,d,c⟩:=h.hyp _ (VZ f);rw[IJ (Bo H t k f o) b];exact FC d c ..};{by_cases p:k<(ae H t).length+(bB H t).length;{obtain⟨j,rfl⟩:∃j,k=(ae H t).length+j:=⟨k-(ae H t).length,by omega⟩;rw[IJ (yW H t j (by omega)) b];have⟨⟨i,l⟩,m⟩:=h.prs _ (VZ (show j<(bB H t).length by omega));exact C9 _ i l m ..};{have e:k=(ae H t).length+(bB H t).length:=(by omega);subst e;rw[IJ (yV H t h.ha) b,Yu (by omega)];exact FD h.Zad h.isa a n}}
def labN(l:List Q)(n:Nat):Vq:=match l[n]? with | some s=>s.Z5 | none=>⟨#[]⟩
theorem RG(h:AT c)(a:c.Z3=2∨c.Z3=3)(f:Fm):(cO f (aL (dt c))).hyps=f.hyps++[c.Z5]/\(cO f (aL (dt c))).goal=f.goal:=by rw[h.split];have e:=sB c.Z5 (gd c.Z3 :: c.ZI) h.lab;rcases a with a | a;{(have b:jw (c.Z5 :: gd c.Z3 :: c.ZI) 102=true:=by grind [km,C3,El]);unfold cO;rw[VI (by grind),VQ ⟨b,by simp[h.two a]⟩];exact⟨rfl,rfl⟩};{(have b:jw (c.Z5 :: gd c.Z3 :: c.ZI) 102=false:=by grind [km,uC,El]);(have d:jw (c.Z5 :: gd c.Z3 :: c.ZI) 101=true:=by grind [km,uC,El]);unfold cO;rw[VI (by grind),VI (by grind),VQ d];exact⟨rfl,rfl⟩}
theorem N9(a:gA z0.1)(b:gA z0.2)(f:Fm):(cO f (aL (bU z0))).hyps=f.hyps/\(cO f (aL (bU z0))).goal=f.goal:=by grind [mA,cO,yL]
theorem GY(h:AT c)(d:gX c.Z3=true)(f:Fm):(cO f (aL (dt c))).hyps=f.hyps/\(cO f (aL (dt c))).goal=c.ZI:=by (rw[h.split];have b:=sB c.Z5 (gd c.Z3 :: c.ZI) h.lab;have a:c.Z3=4∨c.Z3=5:=by grind [gX]);(have e:jw (c.Z5 :: gd c.Z3 :: c.ZI) 102=false:=by grind [km,yO,El,yP]);(have g:jw (c.Z5 :: gd c.Z3 :: c.ZI) 101=false:=by grind [km,yO,El,yP]);grind [cO]
theorem Bd(a:Vu)(h:∀n∈a,∃h:n<M.length,AT M[n]/\(M[n].Z3=2∨M[n].Z3=3))(f:Fm) :
  ((a.map (bR M)).foldl (λf x=>cO f (aL x)) f).hyps=f.hyps++a.map (labN M)/\((a.map (bR M)).foldl (λf x=>cO f (aL x)) f).goal=f.goal:=by induction a generalizing f with|nil=>simp|cons n a e=>have⟨d,b,c⟩:=h n (by simp);grind [bR,dt,labN,cO,aL,RG]
theorem yx(a:List Pr)(h:∀p∈a,gA p.1/\gA p.2)(f:Fm):((a.map bU).foldl (λf x=>cO f (aL x)) f).hyps=f.hyps/\((a.map bU).foldl (λf x=>cO f (aL x)) f).goal=f.goal:=by induction a generalizing f with|nil=>simp|cons p a c=>simp[List.map_cons,List.foldl_cons];have⟨d,e⟩:=c (λn b=>h n (Wz _ b)) (cO f (aL (bU p)));grind [N9]
theorem CK(h:mQ H t):(dh (aH H t)).hyps=(ae H t).map (labN H)/\(dh (aH H t)).goal=(H[t]'h.ha).ZI:=by (unfold dh im;rw[WN];unfold aH;rw[Xo,Xo];have a:bR H t=dt (H[t]'h.ha):=by grind [bR]);simp[List.foldl_cons,List.foldl_nil,a];have⟨c,d⟩:=Bd H (ae H t) h.hyp lJ;have⟨i,j⟩:=yx (bB H t) (λp b=>(h.prs p b).1) (((ae H t).map (bR H)).foldl (λf x=>cO f (aL x)) lJ);have⟨e,g⟩:=GY h.Zad h.isa (((bB H t).map bU).foldl (λf x=>cO f (aL x)) (((ae H t).map (bR H)).foldl (λf x=>cO f (aL x)) lJ));grind [lJ]
def rD(T u:Vq):Prop:=∃a,a+u.size<=T.size/\∀i,i<u.size->zeb T (a+i)=zeb u i
theorem rD.pre{y:Vq}(h:rD D (r++y)):rD D r:=by have⟨a,b,c⟩:=h;rw[VC]at b;refine⟨a,by omega,λi d=>?_⟩;grind [bT]
theorem rD.cut(b:i<=C.size):rD C (C.extract E i):=by refine⟨min E i,?_,?_⟩;{rw[WR];omega};{intro c a;rw[WR]at a;grind [pY]}
def Eh(T x:Vq):Prop:=OU x/\rD T x
theorem kU(c:I.size<=1024):Nm (Eh I) (bz I).2:=uO _ I (λk b h d=>⟨⟨qq I k b h d,mz I k c⟩,by
 have⟨a,z,f,e⟩:=Bv I k b h;rw[e];exact rD.cut I a z f⟩) _ 0 _ (WD _) Nm.empty
theorem nJ(b:¬rD D r)(l:Vs)(a:∀x∈l,rD D x)(y:Vq):bi l (r++y)=false:=by grind [bi,xL,rD.pre]
theorem KD:((V++C).toList==(V++I).toList)=(C.toList==I.toList):=by simp[ByteArray.toList_eq,ByteArray.data_append,Array.toList_append];rw[Xm];simp
def Ar(n:Nat):Vq:=⟨#[UInt8.ofNat (48+n % 10)]⟩
def vH:Nat->Nat->Vq->Vq
 | 0,_,s=>s
 | f+1,n,s=>if 0<n then vH f (n / 10) (Ar n++s) else s
def df(n:Nat):Vq:=vH 20 (n / 10) (Ar n)
def Pn(s:Vq):Nat:=s.toList.foldl (λa b=>a*10+(b.toNat-48)) 0
def yM(s:Vq):Bool:=s.toList.all (λb=>decide (48<=b.toNat)&&decide (b.toNat<=57))&&decide (0<s.size)&&decide (s.size<=4)
theorem To:(List.range 1025).all (λn=>(Pn (df n)==n)&&yM (df n))=true:=by decide +kernel
theorem Cy(h:i<=1024):Pn (df i)=i/\yM (df i)=true:=by grind [To]
theorem Tp(b:E<=1024)(a:i<=1024)(h:df E=df i):E=i:=by grind [Cy]
theorem xT(b:i<=1024)(a:Nat)(c:a<(df i).size):48<=zeb (df i) a/\zeb (df i) a<=57:=by have h:=(Cy i b).2;unfold yM at h;simp only[Bool.and_eq_true,decide_eq_true_eq]at h;have d:=Ww.1 h.1.1 (df i)[a] (by rw[Wc];exact Zj _);grind [aR]
theorem xU(a:i<=1024):0<(df i).size/\(df i).size<=4:=by grind [Cy,yM]
def zF(n:Nat):Vq:=⟨#[122]⟩++df n++⟨#[122]⟩
theorem xz:(⟨#[122]⟩:Vq).size=1:=rfl
theorem rB:(zF i).size=(df i).size+2:=by grind [zF,xz]
theorem Ee:zeb (zF i) 0=122/\(∀a,a<(df i).size->zeb (zF i) (1+a)=zeb (df i) a)/\zeb (zF i) (1+(df i).size)=122:=by unfold zF;refine⟨?_,?_,?_⟩;{rfl};{grind [bT,xz,bI,df]};{have:=bI (⟨#[122]⟩++df i) ⟨#[122]⟩ 0 (by rw[xz];omega);rw[XB,VC,xz]at this;rw[this];rfl}
theorem zal(l:U<=1024)(k:E<=1024)(d:∀a,a<(zF U).size->zeb V (i+a)=zeb (zF U) a)(e:∀a,a<(zF E).size->zeb V (i+a)=zeb (zF E) a):U=E:=by (have r:=rB U;have q:=rB E;have⟨_,n,p⟩:=Ee U;have⟨_,m,o⟩:=Ee E;have f:(df U).size=(df E).size:=by rcases Zf (df U).size (df E).size with h | h | h;{exfalso;have b:=d (1+(df U).size) (by omega);have c:=e (1+(df U).size) (by omega);rw[p]at b;rw[m _ h]at c;have:=xT E k _ h;omega};{exact h};{exfalso;have b:=d (1+(df E).size) (by omega);have c:=e (1+(df E).size) (by omega);rw[o]at c;rw[n _ h]at b;have:=xT U l _ h;omega});refine Tp U E l k ?_;apply Yn f;intro a g j;have b:=d (1+a) (by omega);have c:=e (1+a) (by omega);rw[n a g]at b;rw[m a j]at c;rw[aR _ _ g]at b;rw[aR _ _ j]at c;exact UInt8.toNat_inj.1 (by omega)
theorem FW(n:Nat):∀l:Vu,l.Nodup->(∀x∈l,x<n)->l.length<=n:=by
 induction n with
 | zero =>
  intro l _ h;cases l with
  | nil=>simp
  | cons a l=>exact absurd (h a (by simp)) (Nat.not_lt_zero _)
 | succ n g =>
  intro l c h;by_cases e:n∈l
  ·have d:=g (l.erase n) (c.erase n) (λx f=>by
    have b:=(List.Nodup.mem_erase_iff c).1 f;have:=h x b.2
    omega)
   rw[List.length_erase_of_mem e]at d;omega
  (grind)
theorem PK(s:I.size<=1024)(h:∀n,n<=I.size->rD I (zF n)):False:=by (have d:∀n,∃a,n<=I.size->a<I.size/\∀i,i<(zF n).size->zeb I (a+i)=zeb (zF n) i:=by intro n;by_cases p:n<=I.size;{have⟨a,q,r⟩:=h n p;have:=rB n;exact⟨a,by grind⟩};{exact⟨0,by omega⟩});have⟨f,m⟩:∃f:Nat->Nat,∀n,n<=I.size->f n<I.size/\∀i,i<(zF n).size->zeb I (f n+i)=zeb (zF n) i:=⟨λn=>Classical.choose (d n),by grind⟩;(have o:((List.range (I.size+1)).map f).Nodup:=by rw[List.nodup_iff_pairwise_ne,YO];refine Zk ?_ (Yx (n:=I.size+1));intro a b g k c e;have j:=VD.1 g;have l:=VD.1 k;exact c (zal I a b (f a) (by omega) (by omega) (m a (by omega)).2 (by grind)));have:=FW I.size _ o (by grind);grind
theorem zc3(e:i<=1024)(y:Vq)(n:∀a,a<y.size->eV (zeb y a)=true/\zeb y a≠36/\jJ (zeb y a)=true):Wd (zF i++y)/\cN (zF i++y)=true:=by (have o:=rB i;have⟨f,d,g⟩:=Ee i;have c:∀a,a<(zF i++y).size->eV (zeb (zF i++y) a)=true/\zeb (zF i++y) a≠36/\jJ (zeb (zF i++y) a)=true:=by intro a b;by_cases h:a<(zF i).size;{(rw[bT _ _ _ h];have m:zeb (zF i) a=122∨(48<=zeb (zF i) a/\zeb (zF i) a<=57):=by by_cases k:a=0;{grind};{by_cases l:a=1+(df i).size;{grind};{right;have:=d (a-1) (by omega);rw[show 1+(a-1)=a by omega]at this;rw[this];exact xT i e _ (by omega)}});grind [zeb,zF,eV,jJ]};{obtain⟨j,rfl⟩:∃j,a=(zF i).size+j:=⟨a-(zF i).size,by omega⟩;grind [bI]});refine⟨⟨by rw[VC];omega,λa b=>⟨(c a b).1,(c a b).2.1⟩⟩,?_⟩;grind [cN]
def LO(s u:Vq)(i:Nat):Bool:=(s.extract i (i+u.size)).toList==u.toList
def G1(s u:Vq):Bool:=(List.range (s.size+1)).any (λi=>decide (i+u.size<=s.size)&&LO s u i)
theorem zbQ(h:G1 D r=false):¬rD D r:=by rintro ⟨a,b,c⟩;unfold G1 at h;rw[YN]at h;refine h a (VD.2 (by omega)) ?_;have:=yb D r a b c;simp[b,LO,this]
theorem zbd(h:G1 D r=true):rD D r:=by unfold G1 at h;obtain⟨a,-,b⟩:=X0.1 h;simp only[Bool.and_eq_true,decide_eq_true_eq]at b;have e:=xL b.2;refine⟨a,b.1,λi c=>?_⟩;have:=pY D a (a+r.size) i b.1 (by omega);rw[<-this,e]
theorem PR(r:V.size<=4294967296)(s:C.size<=4294967296) :
  bF 55 #[an V,an C] z4 (ij (bool (G1 V C)) z4):=by
 go_enter func55,ntmps55;go_wp2;go_loopg [5] (V.size+1) (λg i wr=>∃k:Nat,k<=V.size+1/\g=V.size+1-k/\i=J k/\Z (∀i,i<k->i+C.size<=V.size->LO V C i=false)/\wr=z4);{exact⟨0,by omega,by omega,rfl,λi h=>by omega,rfl⟩};obtain⟨k,q,p,rfl,a,rfl⟩:=hrel;by_cases d:k+C.size<=V.size;{(have l:(k:Int)<=(k:Int)+(C.size:Int):=by omega);(have m:(k:Int)+(C.size:Int)<=(V.size:Int):=by omega);(have n:((k:Int)+(C.size:Int)).toNat=k+C.size:=by omega);cases f:((V.extract k (k+C.size)).toList==C.toList);{go_wp2;go_roundg (V.size+1-(k+1));{refine⟨k+1,by omega,rfl,by go_num,?_,rfl⟩;intro i j b;by_cases e:i=k;{subst e;exact f};{exact a i (by omega) b}};omega};{have c:Z (G1 V C=true):=tj k (by omega) (by simp[d,LO,f]);go_wp2;go_ret;exact⟨aT c.o.symm,rfl⟩}}
 ·have c:Z (G1 V C=false):=xD (λi j=>by
   by_cases b:i+C.size<=V.size
   ·simp[a.o i (by omega) b]
   ·simp[b])
  go_wp2;go_ret;exact⟨aT c.o.symm,rfl⟩
theorem EP:(convert 148 9 (Y (some (aC z4.heap.size)) 1 1)).run prog (z4.alloc (aM #[int u8 (48+(U:Int) % 10)] 5))=.ok (an (Ar U)) (z4.alloc (aM #[int u8 (48+(U:Int) % 10)] 5)):=by
 (have e:(48+(U:Int) % 10)=((UInt8.ofNat (48+U % 10)).toNat:Int):=by rw[UInt8.toNat_ofNat'];omega);rw[e]
 exact run_convert_bytes_back (z4.alloc (aM #[int u8 ((UInt8.ofNat (48+U % 10)).toNat:Int)] 5)) 148 9 5 (aC z4.heap.size) 1 [UInt8.ofNat (48+U % 10)] underlying148 underlying5 underlying9 (by
  intro j a
  match j,a with
  | 0,_=>simp[Addr.add])
theorem qW:(Ar i).size=1:=rfl
theorem Is:vH E 0 I=I:=by cases E <;> rfl
theorem jI(z:U<=9999) :
  bF 62 #[J U] z4 (mU (an (df U)) z4):=by (have i:=λp=>EP U p;have b:0<=(U:Int) % 10/\(U:Int) % 10<=9:=by omega);go_enter func62,ntmps62;go_wp2;go_loopg [0,3] (U / 10) (λg v w wr=>∃(f m:Nat) (s:Vq),g=m/\v=J m/\w=an s/\m<10 ^ f/\m<=9999/\s.size+f<=21/\Z (vH f m s=df U)/\aW z4 wr);{exact⟨20,U / 10,Ar U,rfl,by simp,rfl,by omega,by omega,(by rw[qW];omega),rfl,(aa.refl _ _).alloc _⟩};obtain⟨f,m,s,x,rfl,rfl,t,y,A,q,r⟩:=hrel;by_cases l:0<m;{(have i:=λp=>EP m p;have b:0<=(m:Int) % 10/\(m:Int) % 10<=9:=by omega);(have u:(m:Int) > 0:=by omega);(obtain⟨a,rfl⟩:∃a,f=a+1:=by cases f with|zero=>simp at t;omega|succ a=>exact⟨a,rfl⟩);(have c:Z (vH a (m / 10) (Ar m++s)=df U):=by show _=_;rw[<-q.o,vH,VQ l]);(have j:=qW m;have k:m / 10<10 ^ a:=by rw[Nat.pow_succ]at t;exact Nat.div_lt_of_lt_mul (by omega));(have n:(Ar m++s).size=1+s.size:=by rw[VC,j]);have d:Z _:=n;go_wp2;go_roundg (m / 10);{exact⟨a,m / 10,Ar m++s,rfl,by simp,rfl,k,by omega,by have:=d.o;omega,c,r.alloc _⟩};omega};{(have e:m=0:=by omega);subst e;have c:Z (s=df U):=dL (by rw[<-q.o,Is]);go_wp2;go_ret;exact⟨jD c,r⟩}
theorem MH(o:Option Nat)(w:World)(v:aP w U E I o)(u:dE I) :
  bF 60 #[bS U] w λe C=>∃n,n<=1024/\e=dw (an (zF n))/\¬rD I (zF n)/\aW w C:=by have l:=u.size;go_enter func60,ntmps60;go_wp2;go_loopg [3] (I.size+1) (λg i wr=>∃k:Nat,k<=I.size+1/\g=I.size+1-k/\i=J k/\Z (∀j,j<k->rD I (zF j))/\aW w wr);{exact⟨0,by omega,by omega,rfl,λi h=>by omega,aa.refl _ _⟩};obtain⟨k,K,G,rfl,a,f⟩:=hrel;have b:=v.ZN f;obtain⟨s,t,-⟩:=b.cells;have y:=b.lt;by_cases A:k<=I.size;{have z:=xU k (by omega);have p:Z (⟨#[122]⟩++df k++⟨#[122]⟩=zF k):=rfl;have B:=rB k;go_wp2_with fail;refine(jI k wr (by omega)).mono ?_;rintro e D ⟨rfl,m⟩;have c:=b.ZN m;obtain⟨s,t,-⟩:=c.cells;have x:=c.lt;generalize hdk:df k=F at *;go_wp2_with fail;rw[p.o];refine(PR I (zF k) D (by omega) (by omega)).mono ?_;rintro e M ⟨rfl,rfl⟩;cases d:G1 I (zF k);{have r:Z _:=zbQ d;go_wp2;go_ret;rw[p.o];exact⟨k,by omega,rfl,r,f.trans m⟩};{have q:Z _:=zbd d;go_wp2;go_roundg (I.size+1-(k+1));{refine⟨k+1,by omega,rfl,by go_num,?_,f.trans m⟩;intro j H;by_cases e:j=k;{subst e;exact q};{exact a j (by omega)}};omega}};{exact(PK I l (λn L=>a n (by omega))).elim}
theorem Fi(d:z1=10∨z1=32)(b:dV V=false)(c:dV C=false):dV (V++⟨#[z1]⟩++C)=false:=by (rw[nL]at b c ⊢;have g:(⟨#[z1]⟩:Vq).size=1:=rfl;have k:(V++⟨#[z1]⟩++C).size=V.size+1+C.size:=by grind);(have left:∀i,i<V.size->zeb (V++⟨#[z1]⟩++C) i=zeb V i:=by grind [bT]);(have f:zeb (V++⟨#[z1]⟩++C) V.size=(z1.toNat:Int):=by rw[bT _ _ _ (by grind)];have:=bI V ⟨#[z1]⟩ 0 (by omega);rw[XB]at this;rw[this];rfl);(have right:∀i,i<C.size->zeb (V++⟨#[z1]⟩++C) (V.size+1+i)=zeb C i:=λi a=>by have:=bI (V++⟨#[z1]⟩) C i a;rw[VC,g]at this;exact this);(have e:(z1.toNat:Int)≠36/\(z1.toNat:Int)≠91:=by rcases d with rfl | rfl <;> decide);rintro i a ⟨l,m⟩;rw[k]at a;by_cases n:i+1<V.size;{grind};{by_cases o:V.size<i;{obtain⟨j,rfl⟩:∃j,i=V.size+1+j:=⟨i-(V.size+1),by omega⟩;grind};grind}
theorem IL(L:List (UInt8×Vq))(d:∀y∈L,(y.1=10∨y.1=32)/\dV y.2=false):∀A,dV A=false->dV (A++dl L)=false:=by induction L with|nil=>grind [dl,nil_append]|cons y L f=>(have⟨b,x⟩:=y;intro A h;have⟨a,c⟩:=d (b,x) (by simp);have e:A++dl ((b,x) :: L)=(A++⟨#[b]⟩++x)++dl L:=by simp[dl,ByteArray.append_assoc]);rw[e];exact f (by grind) _ (Fi A x b a h c)
theorem MM(b:Wd I):dV I=false:=by rw[nL];rintro i c ⟨a,-⟩;exact(b.2 i (by omega)).2 a
theorem PT(h:z1≠91):dV (kw z1)=false:=by (rw[nL];rintro i c ⟨b,a⟩;have d:(kw z1).size=2:=rfl;have:i=0:=by omega);subst this;have e:zeb (kw z1) (0+1)=(z1.toNat:Int):=rfl;rw[e]at a;exact h (UInt8.toNat_inj.1 (by grind))
def Al(x:Vq):Prop:=Wd x∨∃c:UInt8,x=kw c/\c≠91/\c≠40/\33<=c.toNat/\c.toNat<=126
theorem Al.wrd(h:Al D):Wrd D/\dV D=false:=by rcases h with h | ⟨c,rfl,a,b,d⟩;{exact⟨h.wrd,MM D h⟩};grind [zbj,PT]
theorem dE.idle(h:dE D):rC (bz D).2/\(bz D).2.Z6=[]:=by have⟨c,d,_⟩:=h.left;have⟨b,e⟩:=Nj c;have a:=uN D;exact⟨⟨b,a.nne (VR b),a.prf (by omega),d⟩,e⟩
theorem Gw(d:dE I)(x:Vq)(L:List (UInt8×Vq))(k:Al x)(j:∀y∈L,(y.1=10∨y.1=32)/\Al y.2)(R:Db->Prop)(h:bG (x :: L.map (·.2)) (bz I).2 (λb=>eP b=false/\R b)) :
  ∃b,bz (I++dl ((10,x) :: L))=((0,0),b)/\R b/\dV (I++dl ((10,x) :: L))=false:=by (have a:∀y∈(10,x) :: L,(y.1=10∨y.1=32)/\Al y.2:=by grind);have⟨b,f,g,i⟩:=h (l9 ⟨#[109]⟩ (I++dl ((10,x) :: L)) I.size ((10,x) :: L)) (by rw[Ay];rfl);refine⟨b,ND I d 10 x L rfl (λy c=>⟨?_,(a y c).2.wrd.1⟩) b f g,i,IL _ (λy c=>⟨(a y c).1,(a y c).2.wrd.2⟩) I d.inc⟩;rcases(a y c).1 with e | e <;> rw[e] <;> rfl
structure lI(T z:Vq):Prop where
 fresh:¬rD T z
 wd:∀y:Vq,(∀i,i<y.size->eV (zeb y i)=true/\zeb y i≠36/\jJ (zeb y i)=true)->Wd (z++y)/\cN (z++y)=true
 size:z.size<=6
theorem Kt(a:i<=1024)(h:¬rD I (zF i)):lI I (zF i):=⟨h,zc3 i a,by grind [rB,xU]⟩
def lL(l:List UInt8):Vq:=⟨l.toArray⟩
theorem GS:(lL zs).toList=zs:=by simp[lL]
def fQ(l:List UInt8):Bool:=l.all (λb=>eV (b.toNat:Int) && !((b.toNat:Int)==36)&&jJ (b.toNat:Int))
theorem lI.name(h:lI D r)(l:List UInt8)(d:fQ l=true):Wd (r++lL l)/\cN (r++lL l)=true:=by (refine h.wd _ (λi b=>?_);have a:i<l.length:=by simpa [lL,ByteArray.size] using b);(have c:zeb (lL l) i=((l[i]'a).toNat:Int):=by rw[aR _ _ b];simp[lL,ByteArray.getElem_eq_getElem_data]);rw[c];have:=Ww.1 d _ (VZ a);grind
theorem lI.not_has(h:lI D r)(b:Nm (Eh D) u)(y:Vq):bi u.ZQ (r++y)=false/\bi u.ZK (r++y)=false/\bi u.ZL (r++y)=false/\bi u.ZR (r++y)=false/\bi u.ZU (r++y)=false :=
 ⟨nJ h.fresh _ (λx a=>(b.lab x a).2) y,nJ h.fresh _ (λx a=>(b.con x a).2) y,nJ h.fresh _ (λx a=>(b.var x a).2) y,nJ h.fresh _ (λx a=>(b.act x a).2) y,nJ h.fresh _ (λx a=>(b.typ x a).2) y⟩
theorem l0:bi (X++W) I=(bi X I||bi W I):=by grind [bi]
theorem CQ:bi [C] I=(C.toList==I.toList):=by unfold bi;simp
def Dq(z:Vq):List (UInt8×Vq):=[(32,z++lL [113]),(32,kw 46),(32,z++lL [97]),(32,kw 97),(32,z++lL [113]),(32,kw 46)]
theorem Nk(i:dE C)(e:lI C I):bG (kw 99 :: (Dq I).map (·.2)) (bz C).2 (λf=>eP f=false/\∃p,f.ZZ=(bz C).2.ZZ++[⟨4,I++lL [97],[I++lL [113]],[],p,0⟩]):=by (have⟨c,j⟩:=i.idle;have k:=kU C i.size;generalize (bz C).2=d at *;have⟨q,E⟩:=e.name [113] (by decide);have⟨m,n⟩:=e.name [97] (by decide);have⟨z,A,B,_,_⟩:=e.not_has k (lL [113]);have⟨v,w,x,_,_⟩:=e.not_has k (lL [97]);have D:((I++lL [113]).toList==(I++lL [97]).toList)=false:=by grind [KD,GS]);show bG ([kw 99,I++lL [113],kw 46]++[I++lL [97],kw 97,I++lL [113],kw 46]) d _;refine bG.append (zcK c j (I++lL [113]) q (by grind [dx])) ?_;rintro t rfl;have g:rC { d with ZK:=d.ZK++[I++lL [113]],Z5:=⟨#[]⟩ }:=⟨c.Z3,c.syms,c.prf,c.pr⟩;refine(JR g (I++lL [97]) m n ?_ 97 4 (by simp) [I++lL [113]] (by grind) (by simp) (by simp) ?_).mono ?_;{grind [dx,l0,CQ]};{(intro b y l o;have u:b=[]:=by cases b with|nil=>rfl|cons a b=>simp at o);grind [lL,aF,fA,bi,Fe]};{rintro f ⟨p,rfl⟩;refine⟨?_,p,rfl⟩;show eP { d with Z3:=d.Z3,Z6:=d.Z6 }=false;unfold eP;rw[c.Z3,j];rfl}
theorem Jm:C++⟨#[10,36,99,32]⟩++I++⟨#[113,32,36,46,32]⟩++I++⟨#[97,32,36,97,32]⟩++I++⟨#[113,32,36,46]⟩=C++dl ((10,kw 99) :: Dq I):=by apply YC;apply Array.toList_inj.1;simp[Dq,dl,kw,lL]
theorem zm(c:dE C)(b:lI C I):∃a p,bz (C++dl ((10,kw 99) :: Dq I))=((0,0),a)/\a.ZZ=(bz C).2.ZZ++[⟨4,I++lL [97],[I++lL [113]],[],p,0⟩]/\dV (C++dl ((10,kw 99) :: Dq I))=false:=by
 have⟨a,f,⟨p,g⟩,i⟩:=Gw C c (kw 99) (Dq I) (VH ⟨99,rfl,by decide⟩) (λy d=>by
  have e:=(b.name [113] (by decide)).1;simp[Dq,List.mem_cons,List.not_mem_nil,or_false]at d;rcases d with rfl | rfl | rfl | rfl | rfl | rfl
  ·exact⟨VH rfl,VR e⟩
  ·exact⟨VH rfl,VH ⟨46,rfl,by decide⟩⟩
  ·exact⟨VH rfl,VR ((b.name [97] (by decide)).1)⟩
  ·exact⟨VH rfl,VH ⟨97,rfl,by decide⟩⟩
  ·exact⟨VH rfl,VR e⟩
  ·exact⟨VH rfl,VH ⟨46,rfl,by decide⟩⟩) _ (Nk C I c b)
 (grind)
theorem Pp:(List.range 4200).all (λn=>(Pn (df n)==n)&&fQ (df n).toList)=true:=by decide +kernel
theorem qV(h:t<4200):Pn (df t)=t/\fQ (df t).toList=true:=by grind [Pp]
theorem xS(b:t<4200)(a:z2<4200)(h:(df t).toList=(df z2).toList):t=z2:=by grind [qV,Pn]
def bare(s:Q):Q:={ s with ZT:=[],Z8:=cQ }
def nm(z:Vq)(l:List UInt8):Vq:=z++lL l
theorem uH(b:List UInt8):((nm I zs).toList==(nm I b).toList)=(zs==b):=by grind [nm,KD,GS]
theorem yD(b:List (List UInt8))(a:List UInt8):bi (b.map (nm I)) (nm I a)=b.contains a:=by grind [bi,uH]
theorem PQ(v l:Vs)(x:Vq):bi (cX v l) x=(bi v x||bi l x):=by unfold cX;induction l generalizing v with|nil=>simp[bi]|cons a l b=>grind [bi,Bi,l0,CQ]
theorem gx(c:lI D r)(a:List UInt8)(b:fQ a=true):Wd (nm r a)/\cN (nm r a)=true:=c.name a b
def rQ(s:Q):Q:={ s with ZT:=s.ZT.map (λx=>(x.1,cQ)),Z8:=cQ }
theorem Vg(h:u.Z3=6)(p:Pl):aO u (kw 112) p=(0,{ u with Z3:=5 }):=by grind [aO,aX,ko]
theorem Vf{d:Db}(h:d.Z3=5)(b:d.ZM=false)(c:d.ZI.length≠0)(p:Pl):aO d (kw 61) p=(0,{ d with ZM:=true }):=by grind [aO,ko,cE]
theorem Vi(h:u.Z3=5)(b:u.ZM=true)(x:Vq)(a:Wd x)(p:Pl):aO u x p=(0,{ u with ZT:=u.ZT++[(x,p)] }):=by unfold aO;rw[VI (by grind),VI (by grind),VI (by rw[a.notKey];simp),VI (by grind),VI (by rw[a.noDollar];simp),VQ b]
theorem UR(a:Vs):∀(d:Db),d.Z3=5->d.ZM=true->(∀y∈a,Wd y)->bG a d (λf=>∃e:List (Vq×Pl),e.map (·.1)=a/\f={ d with ZT:=d.ZT++e }):=by induction a with|nil=>simp[bG.nil]|cons y l j=>intro d g i k;refine bG.cons (R:=λc=>∃p,c={ d with ZT:=d.ZT++[(y,p)] }) (by grind [Vi]) ?_;rintro c ⟨p,rfl⟩;refine(j { d with ZT:=d.ZT++[(y,p)] } g i (by grind)).mono ?_;grind
theorem zcL(h:rC u)(a:Vq)(C:Wd a)(A:cN a=true)(B:dx u a=false)(c:Vs)(s:∀y∈c,Wd y)(n:1<=c.length)(k:Vs)(l:∀y∈k,Wd y)(o:∀(b:Vs) y f,c=b++y :: f->aF { u with Z3:=5,ZI:=b } y=0) :
  bG (a :: kw 112 :: (c++kw 61 :: (k++[kw 46]))) u (λm=>∃p j,j.map (·.1)=k/\m={ u with ZQ:=u.ZQ++[a],ZZ:=u.ZZ++[⟨5,a,c,j,p,0⟩],Z5:=⟨#[]⟩ }):=by
 refine bG.cons (R:=λd=>d={ u with ZQ:=u.ZQ++[a],Z5:=a,Z3:=6 }) (by grind [Aa]) ?_;rintro d rfl;refine bG.cons (R:=λd=>d={ u with ZQ:=u.ZQ++[a],Z5:=a,Z3:=5 }) (by grind [Vg]) ?_;rintro d rfl;refine bG.append (R:=λd=>d={ u with ZQ:=u.ZQ++[a],Z5:=a,Z3:=5,ZI:=c }) ?_ ?_;{refine(zN c { u with ZQ:=u.ZQ++[a],Z5:=a,Z3:=5 } (by simp) (by simp) h.prf s ?_).mono ?_;{(intro b y f q;have z:=o b y f q;have e:aF { u with ZQ:=u.ZQ++[a],Z5:=a,Z3:=5,ZI:=u.ZI++b } y=aF { u with Z3:=5,ZI:=b } y:=by rw[h.syms];rfl);grind};{rintro m rfl;simp[h.syms]}};rintro d rfl
 refine bG.cons (R:=λd=>d={ u with ZQ:=u.ZQ++[a],Z5:=a,Z3:=5,ZI:=c,ZM:=true }) (λp=>by
  rw[Vf (d:={ u with ZQ:=u.ZQ++[a],Z5:=a,Z3:=5,ZI:=c }) rfl h.prf (by grind) p];simp) ?_
 (rintro d rfl;refine bG.append (UR k { u with ZQ:=u.ZQ++[a],Z5:=a,Z3:=5,ZI:=c,ZM:=true } rfl rfl l) ?_;rintro d ⟨j,r,rfl⟩;refine bG.one (λp=>?_);have e:aO { u with ZQ:=u.ZQ++[a],Z5:=a,Z3:=5,ZI:=c,ZM:=true,ZT:=u.ZT++j } (kw 46) p=(0,{ u with ZQ:=u.ZQ++[a],ZZ:=u.ZZ++[⟨5,a,c,j,p,0⟩],Z5:=⟨#[]⟩ }):=by unfold aO;rw[VI (by simp),VI (by simp),VQ (by rw[ko];rfl)];unfold lm;rw[VI (by show ¬((c.length:Int)<(if((5:Int)==1)=true∨((5:Int)==2)=true then 2 else 1));grind),VI (by simp)];have t:=h.Z3;have v:=h.syms;have w:=h.prf;have x:=h.pr;grind [cG,eA,rP]);(grind)
structure lS(z:Vq)(d0 d:Db)(B:List (Nat×Nat))(R:Vu)(ls vs tv:List (List UInt8))(N:List Q):Prop where
 idle:rC d
 Z1:d.Z6=B
 rbl:d.rbl=R
 lab:d.ZQ=d0.ZQ++ls.map (nm z)
 con:d.ZK=d0.ZK
 var:∀a:List UInt8,bi d.ZL (nm z a)=true->a.headD 0=120∨a.headD 0=121
 act:d.ZR=d0.ZR++vs.map (nm z)
 typ:d.ZU=d0.ZU++tv.map (nm z)
 ZZ:∃M,d.ZZ=d0.ZZ++M/\M.map rQ=N
 nol:N≠[]->d.Z5=⟨#[]⟩
 sub:∀v∈tv,v∈vs
section
variable {T z:Vq} {d0 d:Db} {B:List (Nat×Nat)} {R:Vu} {ls vs tv:List (List UInt8)} {N:List Q}
theorem vG{l:List (List UInt8)}:l.contains A=true ↔ A∈l:=Yb
theorem lS.free(h:lS z d0 d B R ls vs tv N)(i:lI T z)(g:Nm (Eh T) d0)(l:A∉ls)(m:A.headD 0≠120/\A.headD 0≠121):dx d (nm z A)=false:=by (have⟨j,k,_,_,_⟩:=i.not_has g (lL A);have a:bi d0.ZQ (nm z A)=false:=j;have b:bi d0.ZK (nm z A)=false:=k;have c:bi d.ZL (nm z A)=false:=by cases f:bi d.ZL (nm z A);{rfl};{rcases h.var A f with q | q;{grind};grind});(have e:ls.contains A=false:=by grind);unfold dx;rw[h.lab,h.con,l0,yD,a,b,c,e];rfl
theorem lS.freeV(h:lS z d0 d B R ls vs tv N)(i:lI T z)(g:Nm (Eh T) d0)(m:A∉ls)(n:A∉vs):eR d (nm z A)=false:=by (have⟨j,k,_,l,_⟩:=i.not_has g (lL A);have a:bi d0.ZQ (nm z A)=false:=j;have b:bi d0.ZK (nm z A)=false:=k;have c:bi d0.ZR (nm z A)=false:=l;have e:ls.contains A=false:=by grind);(have f:vs.contains A=false:=by grind);unfold eR;rw[h.lab,h.con,h.act,l0,yD,l0,yD,a,b,c,e,f];rfl
theorem lS.hasT(h:lS z d0 d B R ls vs tv N)(e:lI T z)(c:Nm (Eh T) d0)(a:List UInt8):bi d.ZU (nm z a)=tv.contains a:=by have⟨_,_,_,_,f⟩:=e.not_has c (lL a);have b:bi d0.ZU (nm z a)=false:=f;rw[h.typ,l0,yD,b];rfl
theorem lS.hasA(h:lS z d0 d B R ls vs tv N)(a:A∈vs):bi d.ZR (nm z A)=true:=by rw[h.act,l0,yD,vG.2 a,Zu]
theorem lS.v(h:lS z d0 d B R ls vs tv N)(f:lI T z)(l:Nm (Eh T) d0){a:List UInt8}(j:fQ a=true)(g:a∉ls)(i:a∉vs)(o:a.headD 0=120∨a.headD 0=121) :
  bG [kw 118,nm z a,kw 46] d (λe=>lS z d0 e B R ls (vs++[a]) tv N):=by
 have⟨r,_⟩:=gx f a j
 refine(GK h.idle 118 8 (by simp) [nm z a] (by grind) (by simp) (by simp) (Zo ..) (λy n=>by
  rw[VQ rfl,VO.1 n];exact h.freeV f l g i)).mono ?_
 rintro e ⟨p,rfl⟩;rw[VQ rfl];refine⟨⟨rfl,rfl,rfl,rfl⟩,h.Z1,h.rbl,h.lab,h.con,λb k=>?_,?_,h.typ,h.ZZ,λ_=>rfl,λv m=>Wn _ (h.sub v m)⟩;{have c:bi (cX d.ZL [nm z a]) (nm z b)=true:=k;rw[PQ,CQ,uH,XW]at c;rcases c with q | q;{exact h.var b q};grind};{show d.ZR++[nm z a]=_;rw[h.act];simp}
theorem ED(g:2<=z8/\z8<=5)(d:Db)(a:Vs)(y:Vq):aF { d with Z3:=z8,ZI:=a } y=if a.length=0 then(if bi d.ZK y=false then 17 else 0) else if z8=2 then eJ { d with Z3:=z8,ZI:=a } y else dX { d with Z3:=z8,ZI:=a } y:=by (have e:(z8==7)=false:=by grind);(have f:(z8==8)=false:=by grind);(have c:(z8==1)=false:=by grind);unfold aF;simp[e,f,c,Bool.false_eq_true,if_false,beq_iff_eq];rfl
theorem lS.f(h:lS z d0 d B R ls vs tv N)(c:lI T z)(g:Nm (Eh T) d0)(r:fQ z6=true)(o:fQ A=true)(k:z6∉ls)(l:z6.headD 0≠120/\z6.headD 0≠121)(m:A∈vs)(x:A∉tv)(t:Wd D)(E:bi d0.ZK D=true) :
  bG (nm z z6 :: kw 102 :: ([D,nm z A]++[kw 46])) d (λe=>lS z d0 e B R (ls++[z6]) vs (tv++[A]) (N++[⟨2,nm z z6,[D,nm z A],[],cQ,0⟩])):=by have⟨w1,w⟩:=gx c z6 r;have⟨G,_⟩:=gx c A o;refine(JR h.idle (nm z z6) w1 w (h.free c g k l) 102 2 (by simp) [D,nm z A] (λy a=>?_) (by simp) (λ_=>rfl) ?_).mono ?_;{rcases Wa.1 a with rfl | a;{exact t};{rwa [VO.1 a]}};{intro b y i s;rw[ED (by omega)];rcases b with _ | ⟨q,_ | ⟨F,b⟩⟩;{have a:D=y:=(by grind);rw[VQ (by rfl),<-a,h.con,VI (by grind)]};{(have a:nm z A=y:=(by grind);rw[VI (by simp),VQ rfl,<-a];unfold eJ;have j:tv.contains A=false:=by grind);rw[VI (by simp),VI (by show ¬bi d.ZR (nm z A)=false;rw[h.hasA m];simp),VI (by show ¬bi d.ZU (nm z A)=true;rw[h.hasT c g,j];simp)]};{have:=congrArg List.length s;simp at this}};{rintro e ⟨p,rfl⟩;have⟨M,C,n⟩:=h.ZZ;refine⟨⟨h.idle.Z3,h.idle.syms,h.idle.prf,h.idle.pr⟩,h.Z1,h.rbl,?_,h.con,h.var,h.act,?_,⟨M++[⟨2,nm z z6,[D,nm z A],[],p,0⟩],?_,?_⟩,λ_=>rfl,λv u=>?_⟩;{show d.ZQ++[nm z z6]=_;rw[h.lab];simp};{show d.ZU++[nm z A]=_;rw[h.typ];simp};{grind};{rw[VU,n];rfl};{rcases VG.1 u with q | q;{exact h.sub v q};grind}}
def SyK(d0:Db)(z:Vq)(tv:List (List UInt8))(y:Vq):Prop:=(Wd y/\bi d0.ZK y=true)∨∃v,v∈tv/\fQ v=true/\y=nm z v
theorem lS.chk(h:lS z d0 d B R ls vs tv N)(i:lI T z)(f:Nm (Eh T) d0)(n:3<=z8/\z8<=5)(l:bi d0.ZK D=true)(g:∀y∈K,SyK d0 z tv y)(a:Vs)(y:Vq)(b:Vs)(m:D :: K=a++y :: b):aF { d with Z3:=z8,ZI:=a } y=0:=by rw[ED (by omega)];cases a with|nil=>(have e:D=y:=by grind);rw[VQ (by rfl),<-e,h.con,VI (by grind)]|cons q a=>{(have e:K=a++y :: b:=by grind);rw[VI (by simp),VI (by omega)];unfold dX;rcases g y (by grind) with ⟨-,c⟩ | ⟨v,c,-,j⟩;{rw[VQ (by show bi d.ZK y=true;rwa [h.con])]};{subst j;split;{rfl};{rw[VI (by show ¬bi d.ZR (nm z v)=false;rw[h.hasA (h.sub v c)];simp),VI (by show ¬bi d.ZU (nm z v)=false;rw[h.hasT i f,vG.2 c];simp)]}}}
theorem J1(a:lI T z)(h:SyK d0 z tv D):Wd D:=by rcases h with ⟨q,-⟩ | ⟨v,-,q,rfl⟩;{exact q};{exact(gx a v q).1}
theorem lS.st(h:lS z d0 d B R ls vs tv N)(b:lI T z)(i:Nm (Eh T) d0)(o:fQ A=true)(l:A∉ls)(m:A.headD 0≠120/\A.headD 0≠121)(c:UInt8)(k:Int)(C:(c=101/\k=3)∨(c=97/\k=4))(u:Wd D)(r:bi d0.ZK D=true)(j:∀y∈K,SyK d0 z tv y) :
  bG (nm z A :: kw c :: ((D :: K)++[kw 46])) d (λg=>lS z d0 g B R (ls++[A]) vs tv (N++[⟨k,nm z A,D :: K,[],cQ,0⟩])):=by (have t:k=3∨k=4:=by omega);have⟨v,w⟩:=gx b A o;refine(JR h.idle (nm z A) v w (h.free b i l m) c k (by grind) (D :: K) (λy q=>?_) (by simp) (λe=>by omega) (λf y a s=>h.chk b i (by omega) r j f y a s)).mono ?_;{rcases Wa.1 q with rfl | q;{exact u};{exact J1 b (j y q)}};{rintro g ⟨p,rfl⟩;have⟨M,x,n⟩:=h.ZZ;refine⟨⟨h.idle.Z3,h.idle.syms,h.idle.prf,h.idle.pr⟩,h.Z1,h.rbl,?_,h.con,h.var,h.act,?_,⟨M++[⟨k,nm z A,D :: K,[],p,0⟩],?_,?_⟩,λ_=>rfl,h.sub⟩;{show d.ZQ++[nm z A]=_;rw[h.lab];simp};{(show(if k=2 then _ else d.ZU)=_);rw[VI (by omega)];exact h.typ};{grind};{rw[VU,n];rfl}}
theorem lS.p(h:lS z d0 d B R ls vs tv N)(b:lI T z)(g:Nm (Eh T) d0)(m:fQ A=true)(j:A∉ls)(k:A.headD 0≠120/\A.headD 0≠121)(r:Wd D)(n:bi d0.ZK D=true)(i:∀y∈K,SyK d0 z tv y)(s:∀y∈z3,Wd y) :
  bG (nm z A :: kw 112 :: ((D :: K)++kw 61 :: (z3++[kw 46]))) d (λf=>lS z d0 f B R (ls++[A]) vs tv (N++[⟨5,nm z A,D :: K,z3.map (λx=>(x,cQ)),cQ,0⟩])):=by have⟨u,v⟩:=gx b A m;refine(zcL h.idle (nm z A) u v (h.free b g j k) (D :: K) (λy q=>?_) (by simp) z3 s (λe y a o=>h.chk b g (by omega) n i e y a o)).mono ?_;{rcases Wa.1 q with rfl | q;{exact r};{exact J1 b (i y q)}};{rintro f ⟨p,t,c,rfl⟩;have⟨M,w,l⟩:=h.ZZ;refine⟨⟨h.idle.Z3,h.idle.syms,h.idle.prf,h.idle.pr⟩,h.Z1,h.rbl,?_,h.con,h.var,h.act,h.typ,⟨M++[⟨5,nm z A,D :: K,t,p,0⟩],?_,?_⟩,λ_=>rfl,h.sub⟩;{show d.ZQ++[nm z A]=_;rw[h.lab];simp};{grind};{rw[VU,l,Xk];unfold rQ;rw[<-c,Wr];rfl}}
theorem lS.op(h:lS z d0 d B R ls vs tv N):bG [kw 123] d (λa=>lS z d0 a (B++[(d0.ZR.length+vs.length,d0.ZU.length+tv.length)]) (R++[d0.ZZ.length+N.length]) ls vs tv N):=by refine(Ro h.idle).mono ?_;rintro a rfl;have⟨M,b,c⟩:=h.ZZ;refine⟨⟨h.idle.Z3,h.idle.syms,h.idle.prf,h.idle.pr⟩,?_,?_,h.lab,h.con,h.var,h.act,h.typ,⟨M,b,c⟩,h.nol,h.sub⟩;{show d.Z6++[(d.ZR.length,d.ZU.length)]=_;rw[h.Z1,h.act,h.typ];simp};{show d.rbl++[d.ZZ.length]=_;rw[h.rbl,b,<-c];simp}
def CC(m E:Nat)(N:List Q):List Q:=N.mapIdx (λi s=>if m<=i then dq E s else s)
theorem Mk(E:Nat)(s:Q):rQ (dq E s)=dq E (rQ s):=by grind [dq,rQ]
theorem Iw(l M:List Q)(m:Nat):dy (l++M) (l.length+m)=l++CC m (l.length+M.length) M:=by apply WZ;grind [il,CC]
theorem lS.cl{b:List (Nat×Nat)}{k:Nat}(h:lS z d0 d (b++[(d0.ZR.length+t,d0.ZU.length+k)]) (zz++[d0.ZZ.length+z2]) ls vs tv N)(a:∀v∈tv.take k,v∈vs.take t) :
  bG [kw 125] d (λc=>lS z d0 c b zz ls (vs.take t) (tv.take k) (CC z2 (d0.ZZ.length+N.length) N)):=by (refine(NU h.idle (d0.ZR.length+t,d0.ZU.length+k) (by rw[h.Z1];simp)).mono ?_;rintro c rfl;have⟨M,i,f⟩:=h.ZZ;have e:fB d (d0.ZR.length+t,d0.ZU.length+k)={ dO d d.Z6.dropLast (d0.ZR.length+t,d0.ZU.length+k) with rbl:=d.rbl.dropLast,ZZ:=dy d.ZZ (d0.ZZ.length+z2) }:=by unfold fB;rw[h.rbl];simp);rw[e];refine⟨⟨h.idle.Z3,h.idle.syms,h.idle.prf,h.idle.pr⟩,?_,?_,h.lab,h.con,h.var,?_,?_,⟨CC z2 (d0.ZZ.length+M.length) M,?_,?_⟩,λq=>h.nol (λe=>q (by rw[e];rfl)),a⟩;{show d.Z6.dropLast=_;rw[h.Z1];simp};{show d.rbl.dropLast=_;rw[h.rbl];simp};{show d.ZR.take (d0.ZR.length+t)=_;rw[h.act,Y4,Yl]};{show d.ZU.take (d0.ZU.length+k)=_;rw[h.typ,Y4,Yl]};{grind [dy,Iw]};{unfold CC;rw[<-f,VJ];apply WZ;grind [Mk]}
theorem lS.start(c:rC d0)(d:Nm (Eh T) d0)(e:lI T z):lS z d0 d0 d0.Z6 d0.rbl [] [] [] [] :=
 ⟨c,rfl,rfl,by simp,rfl,(λa b=>by rw[show bi d0.ZL (nm z a)=false from(e.not_has d (lL a)).2.2.1]at b;cases b),by simp,by simp,by simp,by simp,by simp⟩
end
def dJ(c:UInt8)(i:Nat):List UInt8:=c :: (df i).toList
def lR(c:UInt8)(i:Nat):List UInt8:=102 :: c :: (df i).toList
theorem zcR(h:t<4200):fQ (dJ 120 t)=true:=by have:=(qV h).2;unfold fQ dJ at *;rw[Ye,this];decide
theorem lO(h:nm D A=nm D z6):A=z6:=by grind [uH]
section
variable {T z:Vq} {d0 d:Db} {B:List (Nat×Nat)} {R:Vu}
theorem on(h:rQ c=z7):c.Z3=z7.Z3/\c.Z5=z7.Z5/\c.ZI=z7.ZI/\c.ZT.map (·.1)=z7.ZT.map (·.1)/\c.til=z7.til:=by subst h;refine⟨rfl,rfl,rfl,?_,rfl⟩;show _=(c.ZT.map _).map _;rw[Wr];rfl
end
def pz(l:List Q):Prop:=∀s∈l,s.til<=l.length
theorem Vj(h:pz H)(y:Nat):pz (dy H y):=by intro s c;have⟨i,a⟩:=Yp c;rw[sx];rw[il]at a;cases b:H[i]? with|none=>grind|some d=>rw[b]at a;simp[Option.map_some,Option.some.injEq]at a;have e:=h d (by grind);grind [dq]
theorem R1(h:pz u.ZZ)(x:Vq)(p:Pl):pz (aO u x p).2.ZZ:=by rcases qM u x p with e | ⟨y,-,e⟩ | ⟨e,-⟩;{rwa [e]};{rw[e];exact Vj h y};{rw[e];intro s a;rw[Vx];rcases VG.1 a with a | a;{have:=h s a;omega};grind}
theorem R0(f:Nat):∀k d,pz d.ZZ->pz (dC C I f k d).2.ZZ:=by induction f with|zero=>intro k d h;exact h|succ f a=>grind [dC,R1]
theorem LG:pz (bz I).2.ZZ:=R0 _ _ _ 0 bK (by intro s a;simp[bK]at a)
theorem uw:cn (M.map bare) E i=cn M E i:=by unfold cn;rw[VX];cases M[E]? <;> rfl
theorem vc:symsAt (M.map bare) i=symsAt M i:=by unfold symsAt;rw[VX];cases M[i]? <;> rfl
theorem Px:nk (M.map bare) E i=nk M E i:=by unfold nk;rw[VX,uw];cases M[i]? <;> rfl
theorem G6:cK (M.map bare) i=cK M i:=by unfold cK fS;rw[vc,VJ];congr 1;rw[show nk (M.map bare) i=nk M i from funext (Px M i),show symsAt (M.map bare)=symsAt M from funext (vc M)]
theorem M0:gQ (O.map bare) W E i=gQ O W E i:=by unfold gQ;rw[VX,uw];cases O[i]? <;> rfl
theorem Bl:ae (M.map bare) i=ae M i:=by unfold ae eK;rw[G6,VJ];rw[show gQ (M.map bare) (cK M i) i=gQ M (cK M i) i from funext (M0 M _ i)]
theorem Ot:cm (M.map bare) z5=cm M z5:=by unfold cm;rw[show fN (M.map bare)=fN M from funext (λn=>by unfold fN;rw[VX];cases M[n]? <;> rfl)]
theorem Mt:lT (M.map bare) E i=lT M E i:=by unfold lT;rw[VX,uw];cases M[i]? <;> rfl
theorem Dd(k:Nat):cJ (O.map bare) U W k=cJ O U W k:=by induction k with|zero=>rfl|succ k a=>grind [cJ,Mt,vc]
theorem uE:bR (M.map bare) i=bR M i:=by unfold bR;rw[VX];cases M[i]? <;> rfl
theorem Ja:aH (M.map bare) i=aH M i:=by unfold aH bB aQ;rw[Bl,Ot,VJ,Dd,uE,show bR (M.map bare)=bR M from funext (uE M)]
theorem iX:List.range (E+i)=List.range E++(List.range i).map (E + ·):=ZE
def oE(l:List Q)(n:Nat):Bool:=match l[n]? with | some s=>(s.Z3==3)&&(s.til==0) | none=>false
def oS(l:List Q):Vs:=((List.range l.length).filter (oE l)).flatMap (symsAt l)
def oH(l:List Q)(n:Nat):Bool:=match l[n]? with | some s=>(s.til==0)&&jx s (oS l) | none=>false
def nz(l:List Q):Vu:=(List.range l.length).filter (oH l)
def oV(l:List Q):Vs:=cm l (nz l)
def oD(l:List Q)(n:Nat):Bool:=match l[n]? with | some s=>(s.Z3==1)&&(s.til==0) | none=>false
def oT(l:List Q)(vs:Vs)(i j:Nat):Bool:=(List.range l.length).any (λn=>oD l n&&(aI vs (symsAt l n)).contains i&&(aI vs (symsAt l n)).contains j)
structure SO(T:Vq)(l:List Q):Prop where
 til:pz l
 syms:∀s∈l,∀x∈s.ZI,rD T x
def pH(z:Vq)(L:Vs):Prop:=∀x∈L,∃a,x=nm z a
theorem Ds(a:dE I):SO I (bz I).2.ZZ:=⟨LG I,λs b x c=>(((kU I a.size).ZZ s b).syms x c).2⟩
theorem rT(b:lI D r)(v:Vq)(c:rD D v)(a:List UInt8):((nm r a).toList==v.toList)=false:=by cases e:((nm r a).toList==v.toList);{rfl};{exact absurd (rD.pre (y:=lL a) (by have:=xL e;unfold nm at this;rwa [this])) b.fresh}
theorem Lk(e:lI D r)(v:Vq)(c:rD D v)(L:Vs)(b:pH r L):bi L v=false:=by unfold bi;rw[YN];intro x d;obtain⟨a,rfl⟩:=b x d;rw[rT e v c a];simp
theorem tH(c:pz H)(n a:Nat)(b:n<H.length)(d:H.length<=a):cn (H++G) n a=(H[n].til==0):=by unfold cn;rw[V0 b,Vv b];have:=c _ (VZ b);grind
theorem Ty(d:pz H)(n a:Nat)(c:n<H.length)(b:H.length<=a):nk (H++G) a n=oE H n:=by grind [nk,oE,tH]
theorem Ps(d:pz H)(n a:Nat)(c:n<H.length)(b:H.length<=a):lT (H++G) a n=oD H n:=by grind [lT,oD,tH]
theorem zT(a:i<O.length):symsAt (O++M) i=symsAt O i:=by grind [symsAt]
theorem sP:symsAt (O++M) (O.length+i)=symsAt M i:=by grind [symsAt]
theorem DL(b:pz H)(a:Nat):cK (H++G) (H.length+a)=symsAt G a++(oS H++nS H G (H.length+a)):=by unfold cK fS;rw[sP,Vx,iX,WB,WK];congr 2;{unfold oS;have e:(List.range H.length).filter (nk (H++G) (H.length+a))=(List.range H.length).filter (oE H):=Xt (by grind [Ty]);grind [mq,zT]};{unfold nS;rw[YE,X7];exact mq _ _ _ (by grind [sP])}
theorem pH.symsAt(h:∀s∈H,pH D s.ZI)(j:Nat):pH D (symsAt H j):=by unfold Go.Proofs.YtnbalopedcgpcaaGreat.symsAt;cases e:H[j]? with|none=>intro x a;grind|some s=>exact h s (by grind)
theorem pH.nS(h:∀s∈G,pH D s.ZI)(a:Nat):pH D (nS H G a):=by intro x b;unfold Go.Proofs.YtnbalopedcgpcaaGreat.nS at b;have⟨j,_,c⟩:=Xe.1 b;exact pH.symsAt h j x c
theorem DT(h:SO D H)(s:Q)(c:s∈H)(b:(s.Z3==2)=true)(a:2<=s.ZI.length):rD D (az s):=by unfold az;rw[VQ ⟨b,a⟩];refine h.syms s c _ ?_;grind
def s9(l:List Q):Prop:=∀s∈l,(s.Z3==2)=true->2<=s.ZI.length
theorem IP(f:lI D r)(h:SO D H)(g:s9 H)(c:∀s∈G,pH r s.ZI)(b:Nat) :
  ae (H++G) (H.length+b)=nz H++((List.range G.length).filter (λj=>gQ (H++G) (cK (H++G) (H.length+b)) (H.length+b) (H.length+j))).map (H.length + ·):=by unfold ae eK;rw[Vx,iX,WB,YE];congr 1;unfold nz;refine Xt (λn a=>?_);have a:=VD.1 a;unfold gQ oH;rw[tH h.til n _ a (by omega),V0 a,Vv a];simp only;congr 1;unfold jx;cases d:(H[n].Z3==2);{rfl};{simp[if_true];have e:=DT h _ (by simp) d (g _ (by simp) d);rw[DL h.til,l0,l0,Lk f _ e _ (pH.symsAt c b),Lk f _ e _ (pH.nS c _),Zi,ZH]}
theorem QO(h:∀y∈z3,(y.toList==D.toList)=false):aU (K++z3) D=aU K D:=by (unfold aU;rw[Vx,iX,List.find?_append];have b:(List.range K.length).find? (λi=>((K++z3).getD i ⟨#[]⟩).toList==D.toList)=(List.range K.length).find? (λi=>(K.getD i ⟨#[]⟩).toList==D.toList):=by (have:∀(q:Vu),(∀i∈q,i<K.length)->q.find? (λi=>((K++z3).getD i ⟨#[]⟩).toList==D.toList)=q.find? (λi=>(K.getD i ⟨#[]⟩).toList==D.toList):=by intro q c;induction q with|nil=>rfl|cons a q d=>grind);grind);grind
theorem Nr(h:∀y∈K,(y.toList==D.toList)=false):aU (K++z3) D=(aU z3 D).map (K.length + ·):=by (unfold aU;rw[Vx,iX,List.find?_append];have a:(List.range K.length).find? (λi=>((K++z3).getD i ⟨#[]⟩).toList==D.toList)=none:=by grind);rw[a,Option.none_or,List.find?_map];congr 1;congr 1;grind
theorem yq{α:Type}(l:Vs)(p q:Vq->Option α)(h:∀x∈l,p x=q x):l.filterMap p=l.filterMap q:=by induction l with|nil=>rfl|cons a l b=>grind
theorem zt(h:∀x∈zn,∀y∈z3,(y.toList==x.toList)=false):aI (K++z3) zn=aI K zn:=by grind [aI,yq,QO]
theorem wH(h:∀x∈zn,∀y∈K,(y.toList==x.toList)=false):aI (K++z3) zn=(aI z3 zn).map (K.length + ·):=by unfold aI;rw[List.map_filterMap];grind [yq,Nr]
theorem wV(h:i<X.length):gD (X++W) i=gD X i:=by grind [gD]
theorem tF:gD (X++W) (X.length+i)=gD W i:=by grind [gD]
theorem BE(A B C:Nat->Nat->Bool)(d:∀i j,i<X.length->j<X.length->A i j=B i j)(e:∀i j,i<X.length->j<W.length->A i (X.length+j)=false)(f:∀i j,i<W.length->j<W.length->A (X.length+i) (X.length+j)=C i j):Hy (X++W) A=Hy X B++Hy W C:=by unfold Hy;rw[Vx,iX,WK];congr 1;{(refine mq _ _ _ (λi a=>?_);have a:=VD.1 a;rw[WB,VU];have b:(List.range X.length).filter (λj=>decide (i<j)&&A i j)=(List.range X.length).filter (λj=>decide (i<j)&&B i j):=Xt (by grind);have c:((List.range W.length).map (X.length + ·)).filter (λj=>decide (i<j)&&A i j)=[]:=by simp_all);rw[b,c,Yw,WH];apply Wm;grind [wV]};{(rw[X7];refine mq _ _ _ (λi a=>?_);have a:=VD.1 a;rw[WB,VU];have b:(List.range X.length).filter (λj=>decide (X.length+i<j)&&A (X.length+i) j)=[]:=by rw[YL];grind);rw[b,Yw,Wu,YE,Wr];have c:(List.range W.length).filter ((λj=>decide (X.length+i<j)&&A (X.length+i) j) ∘ (X.length + ·))=(List.range W.length).filter (λj=>decide (i<j)&&C i j):=Xt (by grind);rw[c];simp[tF]}
theorem Jr(h:(aI K z3).contains t=true):t<K.length:=by have⟨k,a,e⟩:=WS (Yb.1 h);have:=oQ K z3 k a;omega
theorem EH(h:K.length<=t):(aI K z3).contains t=false:=by cases e:(aI K z3).contains t;{rfl};{have:=Jr e;omega}
theorem Ph:((z5.map (E + ·)).contains (E+i))=z5.contains i:=by simp
theorem Cx(h:i<E):((z5.map (E + ·)).contains i)=false:=by grind
def nT(l N:List Q)(a:Nat)(W:Vs)(i j:Nat):Bool:=(List.range N.length).any (λn=>lT (l++N) a (l.length+n)&&(aI W (symsAt N n)).contains i&&(aI W (symsAt N n)).contains j)
theorem Tb{α β:Type}(l:List α)(f:α->β)(p:β->Bool):(l.map f).any p=l.any (λx=>p (f x)):=by grind
theorem qS(h:∀x∈z5,z9 x=ze x):z5.any z9=z5.any ze:=by grind
theorem xE(h:∀x∈z5,ze x=false):z5.any ze=false:=by grind
theorem Oh(t:lI D r)(h:SO D H)(l:∀s∈G,pH r s.ZI)(a:Nat)(q:H.length<=a)(V W:Vs)(u:∀v∈V,rD D v)(p:pH r W) :
  (∀i j,i<V.length->j<V.length->vg (H++G) a (V++W) (H++G).length i j=oT H V i j)/\(∀i j,i<V.length->j<W.length->vg (H++G) a (V++W) (H++G).length i (V.length+j)=false)/\(∀i j,i<W.length->j<W.length->vg (H++G) a (V++W) (H++G).length (V.length+i) (V.length+j)=nT H G a W i j):=by
 have m:∀n,n<H.length->aI (V++W) (symsAt H n)=aI V (symsAt H n):=λn c=>zt (λx e y k=>by
  obtain⟨b,rfl⟩:=p y k;refine rT t x ?_ b;unfold symsAt at e;rw[Vv c]at e;exact h.syms _ (by simp) x e)
 have o:∀n,aI (V++W) (symsAt G n)=(aI W (symsAt G n)).map (V.length + ·):=λn=>wH (λx e y k=>by
  obtain⟨b,rfl⟩:=pH.symsAt l n x e
  grind [rT,nm])
 (have d:∀i j,vg (H++G) a (V++W) (H++G).length i j=((List.range H.length).any (λn=>oD H n&&(aI V (symsAt H n)).contains i&&(aI V (symsAt H n)).contains j)||(List.range G.length).any (λn=>lT (H++G) a (H.length+n)&&((aI W (symsAt G n)).map (V.length + ·)).contains i&&((aI W (symsAt G n)).map (V.length + ·)).contains j)):=by intro i j;unfold vg;rw[Vx,iX,YY,Tb];congr 1;{refine qS _ _ _ (λn c=>?_);have c:=VD.1 c;rw[Ps h.til n a c q,zT H G n c,m n c]};grind [qS,sP]);refine⟨λi j f g=>?_,λi j f g=>?_,λi j f g=>?_⟩;{rw[d,xE (List.range G.length) _ (by grind),ZH];rfl};{grind [xE,EH,Cx]};(grind [xE,EH,nT,qS,Ph])
def nH(l N:List Q)(j0:Nat):Vu:=(List.range N.length).filter (λj=>gQ (l++N) (cK (l++N) (l.length+j0)) (l.length+j0) (l.length+j))
def oP(l:List Q):List Pr:=Hy (oV l) (λi j=>!(i==j)&&oT l (oV l) i j)
def nP(l N:List Q)(j0:Nat):List Pr:=Hy (cm N (nH l N j0)) (λi j=>!(i==j)&&nT l N (l.length+j0) (cm N (nH l N j0)) i j)
theorem Kc(a:Vu)(h:∀n∈z5,n<O.length):cm (O++M) (z5++a.map (O.length + ·))=cm O z5++cm M a:=by grind [cm,Fb,fN]
theorem Vn(g:∀s∈H,pH D s.ZI)(f:s9 H)(j:Vu):pH D (cm H j):=by intro x e;unfold cm at e;have⟨n,_,a⟩:=WV.1 e;unfold fN at a;cases b:H[n]? with|none=>rw[b]at a;cases a|some s=>rw[b]at a;simp only at a;split at a;{next c => cases a;have d:=WE b;have i:=f s d c;unfold az;rw[VQ ⟨c,i⟩];refine g s d _ ?_;grind};grind
theorem zcw(h:SO D H)(e:s9 H):∀v∈oV H,rD D v:=by intro x d;unfold oV cm at d;have⟨n,_,a⟩:=WV.1 d;unfold fN at a;cases c:H[n]? with|none=>rw[c]at a;cases a|some s=>rw[c]at a;simp only at a;split at a;{next b => cases a;exact DT h s (by grind) b (e s (by grind) b)};{cases a}
theorem FH(l:lI D r)(h:SO D H)(k:s9 H)(e:∀s∈G,pH r s.ZI)(o:s9 G)(a:Nat) :
  ae (H++G) (H.length+a)=nz H++(nH H G a).map (H.length + ·) /\
  aH (H++G) (H.length+a)=((nz H).map (bR H)++(nH H G a).map (bR G))++((oP H).map bU++(nP H G a).map bU)++[bR G a]:=by (have f:=IP l h k e a;refine⟨f,?_⟩;have d:∀n∈nz H,n<H.length:=λn g=>VD.1 (WC.1 g).1;have q:cm (H++G) (ae (H++G) (H.length+a))=oV H++cm G (nH H G a):=by rw[f];exact Kc H G _ _ d);(have p:bB (H++G) (H.length+a)=oP H++nP H G a:=by unfold bB;rw[q,zbH];have⟨t,u,v⟩:=Oh l h e (H.length+a) (by omega) (oV H) (cm G (nH H G a)) (zcw h k) (Vn e o _);refine BE _ _ _ _ _ (λi j b c=>by rw[t i j b c]) (λi j b c=>by rw[u i j b c];simp) (λi j b c=>?_);rw[v i j b c];congr 1;congr 1;rw[Xm];simp);(have m:bR (H++G) (H.length+a)=bR G a:=by unfold bR;rw[We (by omega),Xh]);unfold aH;rw[p,f,VU,VU,Wr,m];congr 3;{exact Wm (λn g=>by unfold bR;rw[V0 (d n g)])};{refine Wm (λn _=>?_);simp[Function.comp];unfold bR;rw[We (by omega),Xh]}
def stQ:Q:=⟨0,⟨#[]⟩,[],[],cQ,0⟩
theorem zdd(h:i<M.length):M.getD i stQ=M[i]:=by grind
theorem Jw:(List.range M.length).map (λj=>M.getD j stQ)=M:=by apply Zm;{simp};grind
theorem zdQ(q:Q->Bool)(d:∀j (f:j<O.length),ze j=q O[j])(e:∀j,O.length<=j->ze j=false):((List.range (O++M).length).filter ze).map (λj=>(O++M).getD j stQ)=O.filter q:=by (rw[Vx,iX,WB,VU];have a:((List.range M.length).map (O.length + ·)).filter ze=[]:=by simp_all);(have b:(List.range O.length).filter ze=(List.range O.length).filter (q ∘ (λj=>O.getD j stQ)):=Xt (by grind);rw[a,Yw,WH,b];have c:((List.range O.length).filter (q ∘ (λj=>O.getD j stQ))).map (λj=>(O++M).getD j stQ)=((List.range O.length).filter (q ∘ (λj=>O.getD j stQ))).map (λj=>O.getD j stQ):=by apply Wm;grind);grind [Jw]
theorem zcm:cn (O++M) (O.length+E) (O.length+i)=match M[E]? with | some s=>decide (E<i)&&(s.til==0||decide (O.length+i<s.til)) | none=>false:=by grind [cn]
theorem zbr:(O++M)[O.length+i]?=M[i]?:=by grind
theorem Qm(h:∀j s,M[j]?=some s->cn (O++M) (O.length+j) (O.length+i)=true->s.Z3=4):nH O M i=[]:=by unfold nH;rw[YL];grind [gQ,zbr,cn,jx]
theorem FG{N:List Q}(k:lI D r)(h:SO D H)(d:s9 H)(g:∀s∈N,pH r s.ZI)(f:s9 N)(c:Nat)(i:∀j s,N[j]?=some s->cn (H++N) (H.length+j) (H.length+c)=true->s.Z3=4) :
  ae (H++N) (H.length+c)=nz H/\aH (H++N) (H.length+c)=(nz H).map (bR H)++(oP H).map bU++[bR N c]:=by (have⟨a,b⟩:=FH k h d g f c;have e:=Qm H N c i;have l:nP H N c=[]:=by unfold nP Hy;rw[e];rfl);grind
theorem Ud(e:lI D r)(h:SO D H)(d:s9 H)(q:Pl) :
  ae (H++[⟨4,r++lL [97],[r++lL [113]],[],q,0⟩]) H.length=nz H/\aH (H++[⟨4,r++lL [97],[r++lL [113]],[],q,0⟩]) H.length=(nz H).map (bR H)++(oP H).map bU++[nm r [97]++⟨#[32]⟩++⟨#[36,97]⟩++(⟨#[32]⟩++nm r [113])]:=by
 have:=FG (N:=[⟨4,r++lL [97],[r++lL [113]],[],q,0⟩]) e h d (λs a=>by
  rw[VO.1 a];intro x b;have b:x∈[r++lL [113]]:=b;exact⟨[113],VO.1 b⟩) (λs a c=>by rw[VO.1 a]at c;cases c) 0 (by grind)
 exact this
def cC(T:Vq):List Q:=(bz T).2.ZZ.map bare
theorem OZ(d:dE D):SO D (cC D)/\s9 (cC D):=by have h:=Ds D d;refine⟨⟨λs a=>?_,λs a x f=>?_⟩,λs a e=>?_⟩;{obtain⟨t,b,rfl⟩:=VK.1 a;have:=h.til t b;unfold cC;rw[VJ];exact this};{obtain⟨t,b,rfl⟩:=VK.1 a;exact h.syms t b x f};{obtain⟨t,b,rfl⟩:=VK.1 a;have c:=W0 e;have:=((kU D d.size).ZZ t b).two c;show 2<=t.ZI.length;omega}
def Ag(T:Vq):Vs:=(nz (cC T)).map (bR (cC T))
def QJ(T:Vq):Vs:=(oP (cC T)).map bU
theorem Jj:fE (M.map bare) I i=fE M I i:=by unfold fE;rw[VX];cases M[i]? <;> rfl
theorem yi:dA (M.map bare) I=dA M I:=by unfold dA;rw[VJ,show fE (M.map bare) I=fE M I from funext (Jj M I)]
theorem PE(c:t<H.length)(a:fE H D t=true)(b:∀m,m<t->fE H D m=false):dA H D=some t:=by unfold dA;simp_all
theorem Bu(g:dE D)(k:lI D r)(N:List Q)(a:List UInt8)(m:Nat)(f:m<(cC D).length):fE (cC D++N) (nm r a) m=false:=by unfold fE;rw[V0 f,Vv f];simp only;have⟨t,j,e⟩:=VK.1 (VZ f);have b:=(kU D g.size).ZZ t j;cases c:gX (cC D)[m].Z3;{simp};{(have c:gX t.Z3=true:=by have:(cC D)[m].Z3=t.Z3:=(by rw[<-e];rfl);rwa [<-this]);(have d:2<=t.Z3/\t.Z3<=5:=b.Z3.resolve_left (by intro e;rw[e]at c;revert c;decide);have i:(cC D)[m].Z5=t.Z5:=by rw[<-e];rfl);rw[i,show(t.Z5.toList==(nm r a).toList)=((nm r a).toList==t.Z5.toList) from BEq.comm,rT k _ (b.lab d).1.2 a];rfl}
theorem uG:fE (O++M) I (O.length+i)=fE M I i:=by unfold fE;grind
theorem PH(d:dE D)(g:lI D r)(N:List Q)(a:List UInt8)(j:Nat)(e:j<N.length)(b:fE N (nm r a) j=true)(c:∀m,m<j->fE N (nm r a) m=false):dA (cC D++N) (nm r a)=some ((cC D).length+j):=by refine PE (by grind) (by rwa [uG]) (λm f=>?_);by_cases h:m<(cC D).length;{grind [Bu]};{obtain⟨q,rfl⟩:∃q,m=(cC D).length+q:=⟨m-(cC D).length,by omega⟩;grind [uG]}
def gJ(T z:Vq):Vq:=T++dl ((10,kw 99) :: Dq z)
structure zaO(U lab:Vq)(L:Vs)(n:Nat):Prop where
 find:dA (bz U).2.ZZ lab=some n
 lines:aH (bz U).2.ZZ n=L
def vP(z:Vq):Vq:=nm z [97]++⟨#[32]⟩++⟨#[36,97]⟩++(⟨#[32]⟩++nm z [113])
theorem BA(d:dE D)(e:lI D r):dV (gJ D r)=false/\(bz (gJ D r)).1=(0,0)/\∃n,zaO (gJ D r) (nm r [97]) (Ag D++QJ D++[vP r]) n/\(ae (bz (gJ D r)).2.ZZ n).length=(Ag D).length:=by (have⟨i,p,f,j,k⟩:=zm D r d e;have⟨l,c⟩:=OZ d;have g:(bz (gJ D r)).2.ZZ.map bare=cC D++[⟨4,r++lL [97],[r++lL [113]],[],cQ,0⟩]:=by unfold gJ;rw[f];show i.ZZ.map bare=_;rw[j,VU];rfl);have⟨a,b⟩:=Ud e l c cQ;refine⟨k,by unfold gJ;rw[f],(cC D).length,⟨?_,?_⟩,?_⟩;{rw[<-yi,g];exact PH d e _ [97] 0 (by simp) (by unfold fE nm;simp[gX]) (by simp)};{rw[<-Ja,g,b];rfl};grind [Bl,Ag]
theorem DI(l:Nat)(L:Vs)(w:World)(m:Z (∀j x,L[j]?=some x->cM w U j (an x)))(n:Z (∀j x,L[j]?=some x->cM w E j (an x)))(e:U<w.heap.size)(f:E<w.heap.size)(r:L.length<=1000000000) :
  bF 74 #[Y (some (aC U)) L.length i,Y (some (aC E)) L.length l] w (mU (bool true) w):=by go_enter func74,ntmps74;go_wp2;go_loopg [5] L.length (λg o wr=>∃k:Nat,k<=L.length/\g=L.length-k/\o=J k/\aW w wr);{exact⟨0,by omega,by omega,rfl,aa.refl _ _⟩};obtain⟨k,t,s,rfl,b⟩:=hrel;by_cases a:k<L.length;{have c:=m k L[k] (Vv a);have d:=n k L[k] (Vv a);generalize L[k]=x at *;have p:cM wr U k (an x):=Mn (b.block U e (by simp)) c;have q:cM wr E k (an x):=Mn (b.block E f (by simp)) d;go_upto_region 6 with fail;go_region;all_goals(go_wp2;go_roundg (L.length-(k+1));{exact⟨k+1,by omega,rfl,by go_num,b.drew⟩};omega)};{go_wp2;go_ret;exact⟨rfl,b⟩}
def bQ(T z:Vq):Vs:=Ag T++QJ T++[vP z]
theorem zM{P:Program}(t C:TypeId)(i:TypeInfo)(z:Value)(b:Nat)(h:Hd)(r:fY)(w:P.underlying t=some (.slice r.e))(x:P.info? r.e=some i)(L:i.zero=some z)(E:i.size=r.size)(M:i.bytes=b)(N:z.cells.size=r.size)(O:0<r.size)(d:aD z4 h r)(v:Addr)(m c:Nat)(a:List Value)(A:a.length=m*r.size)(F:∀j u,a[j]?=some u->z4.cell? (v.add j)=some u)(p:∀u∈a,u.oneCell'=true)(G:r.n+m<=maxLen)(H:(r.n+m)*b<=140737488355328) :
  ∃f k,(Builtin.append_ #[t,t] C #[Y h.ao r.n h.cap,Y (some v) m c]).run P z4=.ok (Y f.ao (r.n+m) f.cap) k /\
   aD k f ⟨r.e,r.size,r.n+m,r.xs++a⟩/\z4.grownBy k h.Z1/\(f.Z1=h.Z1∨∃g,f.Z1=some g/\z4.heap.size<=g):=by by_cases R:0<m;{obtain⟨g,o,k,T,U,V,W⟩:=mC z4 t C i z b h r w x L E M N O d v m c a A F p R G H;refine⟨⟨some (aC g),o⟩,k,T,U,V,?_⟩;rcases W with q | q;{exact VR q.symm};{exact VH ⟨g,rfl,q⟩}};{(have e:m=0:=by omega);subst e;have B:a=[]:=Wx (by simpa using A);subst B;rcases d.ZY with ⟨l,D,K⟩ | ⟨g,I,l,D,K,X,e5,e6⟩;{refine⟨h,z4,?_,?_,⟨rfl,rfl,rfl,Vy _,λ_ _ _=>rfl⟩,VR rfl⟩;{rw[l,D];simp[Builtin.append_,run_underlying w,sizeOf,typeInfo,x,Builtin.lenOf,Builtin.firstCells,loadCells,loadCellsFrom]};{rw[WH,XB];exact d}};{obtain⟨k,s,S,y⟩:=Zw (P:=P) z4 0 t C r.e i r.size w x E g r.n h.cap r.xs (by have:=d;unfold aD at this;rw[l]at this;exact this) v 0 c [] A F p (by omega);refine⟨⟨some (aC g),h.cap⟩,k,by rw[l,s],S,by unfold Hd.Z1;rw[l];exact y,VR (by unfold Hd.Z1;rw[l])⟩}}
theorem wM{P:Program}{v:Array Oper}{o:Oper}{a:Act}{K:Act->World->Prop}{C:Exit->Act->World->Prop}{E:Prop}(T:o.guard=none)(s x:Operand)(t:TypeId)(B:o.op=Op.call { callee:=Callee.builtin Builtin.append,args:=#[s,x],argTypes:=#[t,t] })(i:TypeInfo)(z:Value)(d:Nat)(h:Hd)(r:fY)(G:P.underlying t=some (.slice r.e))(H:P.info? r.e=some i)(I:i.zero=some z)(L:i.size=r.size)(M:i.bytes=d)(N:z.cells.size=r.size)(O:0<r.size)(V:a.eval s=Y h.ao r.n h.cap)(p:aD zc h r)(y:Addr)(m c:Nat)(b:List Value)(X:a.eval x=Y (some y) m c)(U:b.length=m*r.size)(S:∀j u,b[j]?=some u->zc.cell? (y.add j)=some u)(A:∀u∈b,u.oneCell'=true)(D:r.n+m<=maxLen)(F:(r.n+m)*d<=140737488355328)(R:∀k f w,aD w ⟨k,f⟩ ⟨r.e,r.size,r.n+m,r.xs++b⟩->zc.grownBy w h.Z1->((⟨k,f⟩:Hd).Z1=h.Z1∨∃g,(⟨k,f⟩:Hd).Z1=some g/\zc.heap.size<=g)->K (a.put o.dst (Y k (r.n+m) f)) w) :
  if Region.wanted o (yielded v a.tmps)=true then Oper.wp P o a zc K C else E:=by (have W:Region.wanted o (yielded v a.tmps)=true:=by simp[Region.wanted,T]);rw[VQ W];obtain⟨l,w,q,r1,r2,r3⟩:=zM (P:=P) zc t o.type i z d h r G H I L M N O p y m c b U S A D F;unfold Oper.wp;simp[execOp,B,resolve,invoke,builtin,V,X,q,Result.andThen];exact R l.ao l.cap w r1 r2 r3
theorem I6{a:World}{h:Hd}(g:zc.grownBy a h.Z1){S:Vu}(b:∀k,h.Z1=some k->k∈S):aa S zc a:=by exact⟨g.os,g.tape,g.output,g.size,λk c d=>g.block k c (λe=>d (b k e.symm))⟩
section
variable {w0 w w':World} {n b x F g:Nat} {ao:Vt} {cap:Nat} {T z:Vq} {o:Option Nat} {hw hv:Hd} {Lw Lv:Vs}
theorem Qd(h:aa zz w w'){m:Nat}(c:∀q∈zz,m<=q){R:Vu}(a:aa R w0 w)(f:w0.heap.size<=m):aa R w0 w' :=
 ⟨h.os.trans a.os,h.tape.trans a.tape,h.output.trans a.output,V9 a.size h.size,λk b d=>by
  rw[h.block k (VW b a.size) (λe=>by have:=c k e;omega),a.block k b d]⟩
end
theorem Lo(h:dH zc t K K.length):Z (∀j y,K[j]?=some y->zc.cell? (aq t j)=some (an y)):=by intro j y c;obtain⟨a,b⟩:=VT.1 c;rw[yX h j a,b]
def bq(c:Int)(n:Nat):Nat:=((if c<0 then -(c+1) else c).tmod n).toNat
theorem gY(h:0<i):bq zg i<i:=by (unfold bq;have a:0<=(if zg<0 then -(zg+1) else zg):=by omega);have b:=Zx (i:Int) a;have c:=Y8 (if zg<0 then -(zg+1) else zg) (show(0:Int)<i by omega);omega
def Hw(l:List Q)(a:Nat):Vu:=(ae l a).filter (λh=>!((l.getD h bu).Z3==3))
def fJ(l:List Q)(a:Nat):Vu:=(ae l a).filter (λh=>(l.getD h bu).Z3==3)
theorem TI(a:Vu):iQ M a=(a.filter (λh=>!((M.getD h bu).Z3==3))).map (λh=>az (M.getD h bu)):=by unfold iQ;induction a with|nil=>rfl|cons h r b=>grind
structure FmF(l:List Q)(a:Nat)(f:Fm):Prop where
 vars:f.vars=cU l a
 types:f.types=(Hw l a).map (λh=>bH (l.getD h bu))
 ess:f.ess=(fJ l a).map (λh=>(l.getD h bu).ZI)
 left:f.left=(bB l a).map (·.1)
 right:f.right=(bB l a).map (·.2)
 goal:f.goal=(l.getD a bu).ZI
theorem Jh:cU M i=(Hw M i).map (λh=>az (M.getD h bu)):=TI M _
theorem za9(g:Nat->Vq)(L:Vu)(i:Nat)(h:i<L.length):gD (L.map g) i=g L[i]:=by grind [gD]
theorem qZ{α β:Type}{f g:α->Option β}{L:List α}(h:∀x∈L,f x=g x):L.filterMap f=L.filterMap g:=by induction L with|nil=>rfl|cons x r a=>grind
theorem pC(h:t<K.length):gD K t=K[t]:=by grind [gD]
section
variable {l:List Q} {a:Nat} {f:Fm}
end
theorem N7(h:AT c)(a:c.Z3=2∨c.Z3=3)(f:Fm) :
  (cO f (aL (dt c))).vars=f.vars++(if(c.Z3==3)=true then [] else [az c])/\(cO f (aL (dt c))).types=f.types++(if(c.Z3==3)=true then [] else [bH c])/\(cO f (aL (dt c))).ess=f.ess++(if(c.Z3==3)=true then [c.ZI] else [])/\(cO f (aL (dt c))).left=f.left/\(cO f (aL (dt c))).right=f.right:=by rw[h.split];have e:=sB c.Z5 (gd c.Z3 :: c.ZI) h.lab;rcases a with a | a;{(have g:=h.two a;have b:jw (c.Z5 :: gd c.Z3 :: c.ZI) 102=true:=by rw[km,a,C3,El];rfl);(have d:(c.Z3==3)=false:=by rw[a];rfl);(unfold cO;rw[VI (by rw[e];simp),VQ ⟨b,by simp[g]⟩,d];have v:az c=c.ZI.getD 1 ⟨#[]⟩:=by unfold az;rw[VQ ⟨by rw[a];rfl,by omega⟩]);rw[v];simp only[Bool.false_eq_true,if_false,List.append_nil];exact⟨rfl,rfl,trivial,trivial,trivial⟩};{(have b:jw (c.Z5 :: gd c.Z3 :: c.ZI) 102=false:=by rw[km,a,uC,El];decide);(have i:jw (c.Z5 :: gd c.Z3 :: c.ZI) 101=true:=by rw[km,a,uC,El];rfl);(have d:(c.Z3==3)=true:=by rw[a];rfl);unfold cO;rw[VI (by rw[e];simp),VI (by rw[b];simp),VQ i,d];simp only[if_true,List.append_nil];exact⟨trivial,trivial,rfl,trivial,trivial⟩}
theorem JY(a:gA z0.1)(b:gA z0.2)(f:Fm):cO f (aL (bU z0))={ f with left:=f.left++[z0.1],right:=f.right++[z0.2] }:=by rw[mA z0 a b];unfold cO;rw[VQ (yL _)];rfl
theorem uX(h:AT c)(d:gX c.Z3=true)(f:Fm):cO f (aL (dt c))={ f with goal:=c.ZI }:=by (rw[h.split];have g:=sB c.Z5 (gd c.Z3 :: c.ZI) h.lab;have a:c.Z3=4∨c.Z3=5:=by unfold gX at d;simpa using d);(have i:jw (c.Z5 :: gd c.Z3 :: c.ZI) 102=false:=by (rw[km];rcases a with e | e <;> rw[e]);{rw[yO,El];decide};{rw[yP,El];decide});(have j:jw (c.Z5 :: gd c.Z3 :: c.ZI) 101=false:=by (rw[km];rcases a with e | e <;> rw[e]);{rw[yO,El];decide};{rw[yP,El];decide});unfold cO;rw[VI (by rw[g];simp),VI (by rw[i];simp),VI (by rw[j];simp)];rfl
theorem yw(a:Vu)(h:∀n∈a,∃h:n<M.length,AT M[n]/\(M[n].Z3=2∨M[n].Z3=3)):∀(f:Fm) (g:Fm),g=((a.map (bR M)).foldl (λf x=>cO f (aL x)) f) ->
  g.vars=f.vars++(a.filter (λh=>!((M.getD h bu).Z3==3))).map (λh=>az (M.getD h bu))/\g.types=f.types++(a.filter (λh=>!((M.getD h bu).Z3==3))).map (λh=>bH (M.getD h bu))/\g.ess=f.ess++(a.filter (λh=>(M.getD h bu).Z3==3)).map (λh=>(M.getD h bu).ZI)/\g.left=f.left/\g.right=f.right:=by induction a with|nil=>rintro f g rfl;simp|cons n a q=>{(rintro f g rfl;obtain⟨b,d,j⟩:=h n (by simp);have e:bR M n=dt M[n]:=by unfold bR;rw[Vv b]);(have i:M.getD n bu=M[n]:=by rw[Vz,Vv b];rfl);simp only[List.map_cons,List.foldl_cons];obtain⟨k,l,m,o,p⟩:=q (λn b=>h n (Wz _ b)) (cO f (aL (bR M n))) _ rfl;obtain⟨r,s,t,u,v⟩:=N7 d j f;rw[k,l,m,o,p,e,r,s,t,u,v];simp only[List.filter_cons,i];cases c:(M[n].Z3==3) with|true=>simp[b]|false=>simp[b]}
theorem qe(a:List Pr)(h:∀p∈a,gA p.1/\gA p.2):∀f:Fm,(a.map bU).foldl (λf x=>cO f (aL x)) f={ f with left:=f.left++a.map (·.1),right:=f.right++a.map (·.2) }:=by induction a with|nil=>intro f;simp|cons p a d=>intro f;have b:=h p (by simp);simp only[List.map_cons,List.foldl_cons];rw[JY p b.1 b.2,d (λq c=>h q (Wz _ c))];simp
theorem Fc(h:mQ H t):FmF H t (dh (aH H t)):=by (have a:bR H t=dt (H[t]'h.ha):=by unfold bR;rw[Vv h.ha]);(have b:H.getD t bu=H[t]'h.ha:=by rw[Vz,Vv h.ha];rfl);(obtain⟨d,g,i,j,k⟩:=yw H (ae H t) h.hyp lJ _ rfl;have e:dh (aH H t)={ (((ae H t).map (bR H)).foldl (λf x=>cO f (aL x)) lJ) with left:=(((ae H t).map (bR H)).foldl (λf x=>cO f (aL x)) lJ).left++(bB H t).map (·.1),right:=(((ae H t).map (bR H)).foldl (λf x=>cO f (aL x)) lJ).right++(bB H t).map (·.2),goal:=(H[t]'h.ha).ZI }:=by unfold dh im;rw[WN];unfold aH;rw[Xo,Xo];simp only[List.foldl_cons,List.foldl_nil,a];rw[qe _ (λp c=>(h.prs p c).1),uX h.Zad h.isa]);rw[e];refine⟨?_,?_,?_,?_,?_,by rw[b]⟩;{(show(((ae H t).map (bR H)).foldl (λf x=>cO f (aL x)) lJ).vars=_);rw[d,Jh];rfl};{(show(((ae H t).map (bR H)).foldl (λf x=>cO f (aL x)) lJ).types=_);rw[g];rfl};{(show(((ae H t).map (bR H)).foldl (λf x=>cO f (aL x)) lJ).ess=_);rw[i];rfl};{(show(((ae H t).map (bR H)).foldl (λf x=>cO f (aL x)) lJ).left++_=_);rw[j];rfl};{(show(((ae H t).map (bR H)).foldl (λf x=>cO f (aL x)) lJ).right++_=_);rw[k];rfl}
def ixS(l:List Q)(k:Nat):Nat:=((List.range k).filter (λn=>!((ci l n).ZO==0))).length
theorem Ri:jy M=((List.range M.length).filter (λn=>!((ci M n).ZO==0))).map (ci M):=by unfold jy;rw[rA,YE];rfl
theorem Tz:∀k,k<i->z9 k=true->((List.range i).filter z9)[((List.range k).filter z9).length]?=some k:=by intro k b a;obtain⟨m,rfl⟩:∃m,i=k+1+m:=⟨i-(k+1),by omega⟩;rw[ZE,WB,WG,WB,Wg,We (Vy _),XZ];simp[a]
theorem TE(k:Nat)(h:((List.range E).filter z9)[i]?=some k):k<E/\z9 k=true/\i=((List.range k).filter z9).length:=by have a:=WC.1 (WE h);have c:=VD.1 a.1;refine⟨c,a.2,?_⟩;have b:((List.range E).filter z9).Nodup:=List.nodup_range.filter _;have⟨f,d⟩:=VT.1 h;have⟨g,e⟩:=VT.1 (Tz z9 E k c a.2);exact(Zn b).1 (d.trans e.symm)
theorem Up{l:List Q}{k:Nat}(h:((ci l k).ZO==0)=false):∃s,l[k]?=some s/\gX s.Z3=true/\(ci l k).Z5=s.Z5:=by unfold ci jm at h ⊢;cases a:l[k]? with|none=>rw[a]at h;cases h|some s=>rw[a]at h;simp only at h ⊢;by_cases d:s.Z3=4;{grind [gX]};{have b:(s.Z3==4)=false:=(by grind);by_cases e:s.Z3=5;{grind [gX,cY,io]};{have c:(s.Z3==5)=false:=(by grind);rw[b,c]at h;cases h}}
theorem wZ(i:Ef H)(f:H[t]?=some c)(g:H[z2]?=some z7)(b:gX c.Z3=true)(d:gX z7.Z3=true)(e:c.Z5=z7.Z5):t=z2:=by (have j:c.Z3≠1:=λa=>by rw[a]at b;cases b);(have k:z7.Z3≠1:=λa=>by rw[a]at d;cases d);rcases Zf t z2 with a | a | a;{have:=i t z2 c z7 a f g j k;grind};{exact a};{have:=i z2 t z7 c a g f k j;grind}
theorem qd(c:Ef H){s:Q}(h:H[t]?=some s)(b:gX s.Z3=true):dA H s.Z5=some t:=by cases a:dA H s.Z5 with|none=>unfold dA at a;have:=Yi.1 a t (VD.2 ((VT.1 h).1));exact absurd (by unfold fE;rw[h];simp[b]) this|some m=>grind [dA,fE,wZ,dN]
structure SpR(T:Vq)(i k:Nat)(r:Rw):Prop where
 find:dA (bz T).2.ZZ r.Z5=some k
 fr:mQ (bz T).2.ZZ k
 Zad:((bz T).2.ZZ[k]'fr.ha).Z5.toList=r.Z5.toList
 at_:gM (bz T).2.ZZ k=true
 ver:(ci (bz T).2.ZZ k).ZO=r.ZO
 ix:i=ixS (bz T).2.ZZ k
theorem zci(a:dE I)(h:(bz I).2.ZZ[t]?=some c)(b:gX c.Z3=true):mQ (bz I).2.ZZ t:=by obtain⟨d,rfl⟩:=VT.1 h;exact mQ.of (ft I a.size) (ip I a.size a.inc).ok t d b
theorem RB(b:dE I){r:Rw}(h:(aZ I)[t]?=some r):∃k,SpR I t k r:=by have i:=(uN I).diff;unfold aZ at h;rw[Ri,VX]at h;cases a:((List.range (bz I).2.ZZ.length).filter (λn=>!((ci (bz I).2.ZZ n).ZO==0)))[t]? with|none=>grind|some k=>(rw[a]at h;have h:=Wb h;have⟨m,f,g⟩:=TE _ _ _ _ a;have⟨s,d,c,j⟩:=Up (l:=(bz I).2.ZZ) (k:=k) (by simpa using f);have e:r.Z5=s.Z5:=by grind);refine⟨k,by grind [qd],zci I b d c,?_,by grind [gM],by grind,g⟩;grind
def TlA(d:Db):Prop:=∀s∈d.ZZ,gX s.Z3=true->s.til=0
theorem TlA.take(h:TlA u)(x:Vq)(p:Pl):TlA (aO u x p).2:=by intro s c b;rcases qM u x p with e | ⟨y,-,e⟩ | ⟨e,-⟩;{rw[e]at c;exact h s c b};{rw[e]at c;have⟨i,a⟩:=List.mem_iff_getElem?.1 c;rw[il]at a;cases g:u.ZZ[i]? with|none=>grind|some d=>rw[g]at a;replace a:(if y<=i/\i<u.ZZ.length then dq u.ZZ.length d else d)=s:=Wb a;have f:=WE g;by_cases q:y<=i/\i<u.ZZ.length;{rw[VQ q]at a;unfold dq at a;split at a;{grind};{rw[<-a]at b ⊢;exact h d f b}};{rw[VI q]at a;rw[<-a]at b ⊢;exact h d f b}};{rw[e]at c;rcases VG.1 c with q | q;{exact h s q b};grind}
theorem JD(f:Nat):∀k d,TlA d->TlA (dC C I f k d).2:=by induction f with|zero=>intro k d h;exact h|succ f a=>intro k d h;rw[dC];split;{split;{exact a _ _ (h.take _ _)};{exact h.take _ _}};{split;{split <;> exact h};{exact h}}
theorem LH:TlA (bz I).2:=JD _ I _ 0 _ (λs a=>by cases a)
def bm(l:List Q)(k:Nat):Vs:=(Hw l k).map (λh=>bH (l.getD h bu))
def rnS(z:Vq)(us:Vs)(x:Vq):Vq:=match aU us x with
 | none=>x
 | some i=>nm z (dJ 120 i)
section
variable {T z:Vq} {k:Nat} {L:List Q} {g ws:Vs}
abbrev aS (T:ByteArray) (k:Nat):Nat:=(bz T).2.ZZ.length+(bm (bz T).2.ZZ k).length
theorem zbu(h:∀s,H[z2]?=some s->s.Z3≠1->(s.Z5.toList==D.toList)=false):jl H D t z2=false:=by grind [jl]
theorem jL(k:Nat):(cU M k).length=(bm M k).length:=by grind [Jh,bm]
theorem lo(h:t<H.length):H.getD t bu=H[t]:=by grind
theorem zcU{k:Nat}(a:t<(Hw H k).length):gD (bm H k) t=bH (H.getD (Hw H k)[t] bu):=by grind [gD,bm]
theorem za1{k:Nat}(a:t∈Hw H k):t∈ae H k/\t<H.length/\(H.getD t bu).Z3=2:=by have⟨b,c⟩:=WC.1 a;grind [gL,lZ]
end
theorem zj{l:List Q}{a:Nat}{Z8:Pl}{nu:Vq->Nat}(c:List (Vq×Pl)):∀b:List eB,(∀x∈c,cd l x.1 a=some (nu x.1)/\(x.1.toList == [63])=false)->0<b.length+c.length->dn l a Z8 c b=(b++c.map (λx=>⟨2,nu x.1,x.2⟩),cD):=by induction c with|nil=>grind [dn]|cons x r g=>have⟨t,p⟩:=x;intro b f _;have⟨d,e⟩:=f (t,p) (by simp);simp only at d e;rw[dn,VI (by grind),d];simp only;rw[g _ (by grind) (by grind)];simp
theorem E0{α:Type}(p:α->Bool)(L:List α)(q:Nat)(x:α)(h:L[q]?=some x)(a:p x=true):(L.filter p)[((L.take q).filter p).length]?=some x:=by (have e:L=L.take q++x :: L.drop (q+1):=by have:=(VT.1 h).2;rw[<-this,<-Wj ((VT.1 h).1),Ym]);grind
theorem Qr{α:Type}{L:List α}(h:L.Nodup){x:α}(a:L[t]?=some x)(b:L[z2]?=some x):t=z2:=by have c:=(VT.1 a);have d:=(VT.1 b);have e:=List.pairwise_iff_getElem.1 h;grind
def wD(l:List Q)(k q:Nat):Nat:=(((ae l k).take q).filter (λh=>!((l.getD h bu).Z3==3))).length
def pB(l:List Q)(k q:Nat):Nat:=(((ae l k).take q).filter (λh=>(l.getD h bu).Z3==3)).length
section
variable {T z:Vq} {k:Nat}
theorem yJ:(ae M i).Nodup:=(sA M i).imp (Nat.ne_of_lt)
variable {L:List Q} {g ws:Vs}
def dM(L:List Q)(a:Nat)(w:Vq):Nat:=(cd L w a).getD 0
theorem mg(h:cN D=true):(D.toList == [40])=false/\(D.toList == [63])=false:=by refine⟨?_,?_⟩;{cases q:(D.toList == [40]);{rfl};{have e:D=⟨#[40]⟩:=dN (by simp_all);rw[e]at h;exact absurd h (by decide +kernel)}};{cases q:(D.toList == [63]);{rfl};{have e:D=⟨#[63]⟩:=dN (by simp_all);rw[e]at h;exact absurd h (by decide +kernel)}}
end
end Go.Proofs.YtnbalopedcgpcaaGreat

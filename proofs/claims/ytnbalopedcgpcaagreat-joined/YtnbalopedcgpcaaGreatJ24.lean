import Derived.Test.YtnbalopedcgpcaaGreatJ18
import Derived.Test.YtnbalopedcgpcaaGreatJ21
import Derived.Test.YtnbalopedcgpcaaGreatJ23
namespace Go.Proofs.YtnbalopedcgpcaaGreat
open Go.RowKit Tryz
open Value IntKind Ending
set_option linter.all false
set_option maxHeartbeats 0
variable{zn z8:World}{n G:Nat}{c K zK:Vs}{y2:List dV}{zz:List mw}{y0:Nat->Hd}{w r:List St}{y3:Int×Vs->Prop}{D:Db}{i z5:St}{S I:Vq}{s z3:List UInt8}{z6:Int}(C:Vq)(E:List St)(zc:Nat->Bool)(A:Nat)(t:Vq)(z4:World)(O:Vs)(z2:Int)(F:Vs)(z1:UInt8)(o:List St)(zo:Vu)(u:Nat)(x:Vq)(H:Nat)(m:List St)(z7:Vu)(y1:List UInt8)(z9:Nat->Bool)(z0:Pr)
theorem qq.gmAt(h:qq zn z8 n c K y2 zz y0):wt z8 n K y2 zz (y0 0) (y0 1):=by have b:=h.bag.ZP 1;refine⟨h.bag.ZF,(aM.ZP h.bag 0).view,b.srcG (λ_=>rfl),?_,h.len,h.each⟩;rcases b.ZC with ⟨-,a,-⟩ | ⟨g,d,f,i,e,-⟩;{have a:zz.length=0:=a;omega};{exact e}
theorem NF(c:dM w)(P:dV)(d:P∈dR w n):P.body.length<=10000/\P.vars.length<=10000:=by rcases VJ.1 d with h | h;{obtain⟨a,-,rfl⟩:=VT.1 h;exact⟨by show 1<=_;omega,Wp _⟩};{obtain⟨a,-,rfl⟩:=VT.1 h;refine⟨?_,?_⟩;{(show((cN w a).Zm.drop 1).length<=_);rw[Xp];by_cases b:a<w.length;{rw[ji b];have:=c.syms a b;omega};{unfold cN;rw[Xv (by omega)];show 0-1<=_;omega}};{(show((ae w a).map _).length<=_);rw[VX];exact VU (jP w a) c.len}}
theorem Ur:(dR o H).length<=o.length+H:=by grind [dR,cN,ae,nC,jP]
theorem qq.ct{b:Hd}(h:qq zn z8 n (w.map aI) c (dR w G) zz y0)(j:dM w)(k:G<w.length)(i:cC z8 b K)(o:K.length<=10):Gf z8 n b K c (dR w G) zz (y0 0) (y0 1):=by (have l:=j.len;have e:=N9 c _ h.dist h.sub;rw[VX]at e;have m:c.length*(K.length+1)<=10000*11:=WP (by omega) (by omega);refine⟨h.gmAt,i,by omega,by omega,by grind [NF],by grind [Ur],h.dist,λP d=>?_⟩;obtain⟨a,f,rfl⟩:=Wa d;have g:a<zz.length:=by rw[h.len];exact f);exact⟨_,(h.each a zz[a] _ (by simp) (by simp)).cod⟩
def RpQ(rest:Vs)(Ps:List dV)(code:Vq)(res:Int×Vs):Prop:=if 10<rest.length then res=(3,[]) else xq rest Ps code res
def gQ(l:List St)(lab code:Vq)(res:Int×Vs):Prop:=match dg l lab with
 | none=>res=(8,[])
 | some n=>RpQ ((cN l n).Zm.drop 1) (dR l n) code res
def QX(zzQ:Int×Vs->Prop)(w:World)(e:Ending)(w':World):Prop:=∃res,zzQ res/\MR res.2 res.1 w e w'
theorem QX.base{c:World}{e:Ending}(h:QX y3 z8 e c)(k:aJ zn z8):QX y3 zn e c:=by have⟨a,f,d,g,i,j,l⟩:=h;exact⟨a,f,d,g,i,λb e=>VU k.size (j b e),k.trans l⟩
theorem NI(h:y3 (z2,[]))(k:aJ zn z8):QX y3 zn (cA (tuple #[Q none 0 0,Y z2])) z8:=⟨(z2,[]),h,none,rfl,⟨by simp,by simp⟩,by simp,k⟩
set_option maxRecDepth 100000
theorem LH(t:Nat->Hd)(d:Db)(hd:d.ZD=m)(F:FlD d)(b:Vq)(w:World)(h:dI w A u m t)(B:dM m)(p:H<m.length) :
  br 18 #[pointer (some (X A u)),Y H,J b] w λe r=>QX (RpQ (m[H].Zm.drop 1) (dR m H) b) w e r:=by (have k:Z _:=aY A u H m t w h p;have j:Z (∀c,aJ w c->br 52 #[cX m[H] (t (10+2*H)) (t (11+2*H))] c λe r=>∃f:Hd,e=cA (Q f.ao (m[H].Zm.drop 1).length f.cap)/\cC r f (m[H].Zm.drop 1)/\aJ c r):=λc q=>DO m[H] _ _ c ((h.Zr q).viewN H p) (by have:=B.syms H p;omega);have G:Z _:=λc (q:aJ w c)=>zbz A u H m t c (h.Zr q) B p;have K:Z (∀o a L n (f:Hd) S c,(m[H].Zm.drop 1).length<=10->qq S c o (m.map aI) a (dR m H) L n->cC c f (m[H].Zm.drop 1)->br 54 #[bB o,Q f.ao (m[H].Zm.drop 1).length f.cap,J b] c λe r=>zfm (m[H].Zm.drop 1) (dR m H) b c e r):=λo a L n f S c ht g v => Cz o f (m[H].Zm.drop 1) a (dR m H) L (n 0) (n 1) 10000 b c (g.ct B p v ht) (by grind [NG]) (λP W=>(NF B P W).2) (by omega));(unfold cX at k j;have af:(m[H].Zm.drop 1).length<=10000:=by rw[Xp];have:=B.syms H p;omega);generalize m[H].Zm.drop 1=i at *;generalize m[H]=s at *;by_cases x:10<i.length;{(have y:(i.length:Int) > 10:=by omega);go_enter func18,ntmps18;go_wp2_with (first | (go_at_call 51;refine eJ k λw2 l=>?_) | (go_at_call 52;refine VC (j _ l) ?_;rintro V C ⟨f,rfl,R,z⟩));go_ret2;exact NI 3 (by unfold RpQ;rw[VK x]) (l.trans z)};{(have y:¬(i.length:Int) > 10:=by omega);go_enter func18,ntmps18;go_upto_region 4 with (first | (go_at_call 51;refine eJ k λw2 l=>?_) | (go_at_call 52;refine VC (j _ l) ?_;rintro V C ⟨f,rfl,R,z⟩));have O:A<C.heap.size:=VD h.lt (l.trans z).size;have E:Z _:=G C (l.trans z);go_upto_region 5 with (go_at_call 53;refine VC E ?_;rintro e4 T ⟨o,a,L,n,rfl,M⟩);have I:Z _:=(K o a L n f C T (by omega) M (R.Zr M.kp));have D:Z (aJ w T):=(l.trans z).trans M.kp;go_wp2_with (go_at_call 54;refine VC I ?_;rintro e5 w5 ⟨N,ad,U,rfl,x5,n5,k5⟩);go_ret2;exact QX.base ⟨N,by unfold RpQ;rwa [VL x],U,rfl,x5,n5,k5⟩ D}
set_option maxRecDepth 512
theorem MD(v:Fs)(l:List St)(p:Nat->Hd)(g:Nat)(d:Db)(C:d.ZD=l)(F:FlD d)(b a:Vq)(w:World)(h:dW w H v l p g)(z:dM l) :
  br 9 #[bB H,J b,J a] w λe o=>QX (gQ l b a) w e o:=by have x:=z.len;have m:=sG H v l p g b w h (by omega);cases k:dg l b with|none=>(rw[k]at m;have i:Z _:=m;have A:Z (gQ l b a (8,[])):=by show gQ l b a (8,[]);unfold gQ;rw[k]);go_enter func9,ntmps9;go_wp2_with (go_at_call 17;refine eJ i λc f=>?_);go_ret2;exact NI 8 A f|some n=>{(rw[k]at m;have⟨y,L,_⟩:=lO k;have i:Z _:=m;have s:Z (∀c,aJ w c->br 18 #[pointer (some (X H 10)),Y n,J a] c λe o=>QX (gQ l b a) c e o):=λc f=>by refine(LH H 10 n l p d C F a c (h.Zr f).recd z y).mono ?_;rintro e o ⟨j,u,E⟩;refine⟨j,?_,E⟩;unfold gQ;rw[k];show RpQ ..;rw[ji y];exact u);have t:Z _:=λc (f:aJ w c)=>VD h.anyR.lt f.size;go_enter func9,ntmps9;go_upto_region 4 with (go_at_call 17;refine eJ i λc f=>?_);have D:=t c f;have⟨r,q⟩:=nM (s c f) f;go_wp2_with (go_at_call 18;refine VC r ?_;rintro e M ⟨j,u,B,rfl,G,I,K⟩);go_ret2;exact QX.base ⟨j,u,B,rfl,G,I,K⟩ q}
def Ri(x:Vq):Prop:=Wd x/\x.size<=1024
theorem jf(a:x.size<=1024):Nm Ri (bn x).2:=wV _ x (λk c h b=>⟨rh x k c h b,m8 x k a⟩) _ 0 _ (Wp _) Nm.empty
theorem Nm.szs(h:Nm Ri D):Gn D.ZD:=by intro s c b;have a:=h.ZD s c;exact⟨by have:=(a.lab (a.ZG.resolve_left b)).1.2;omega,λx d=>by have:=(a.syms x d).2;omega⟩
theorem tP(h:Wd t):isD (t :: F)=false:=h.notKey 100
theorem zZ:isD (⟨#[36,100]⟩ :: F)=true:=by (show((⟨#[36,100]⟩:Vq).toList == [36,100])=true);simp
theorem kF:jQ (t :: ii z2 :: F) z1=((ii z2).toList == [36,z1]):=rfl
theorem EZ:ii 2=⟨#[36,102]⟩:=rfl
theorem wO:ii 3=⟨#[36,101]⟩:=rfl
theorem Ab:ii 4=⟨#[36,97]⟩:=rfl
theorem Ac:ii 5=⟨#[36,112]⟩:=rfl
theorem Ga:(⟨#[36,z1]⟩:Vq).toList=[36,z1]:=by simp
structure D0(s:St):Prop where
 lab:Wd s.ZH
 syms:∀x∈s.Zm,Wd x
 pos:0<s.Zm.length
 two:s.ZG=2->s.Zm.length=2
 sz:(fQ s).size<=1073741824
theorem Nm.stw(h:Nm Ri D)(i:∀s∈D.ZD,s.Zm.length<=10000)(s:St)(e:s∈D.ZD)(d:s.ZG≠1):D0 s:=by have a:=h.ZD s e;have b:=a.ZG.resolve_left d;have⟨c,r,g,_⟩:=a.code b;refine⟨(a.lab b).1.1,λx f=>(a.syms x f).1,by grind,a.two,?_⟩;have:=xK s (h.szs s e d) s.Zm.length (Vw _);grind [fQ]
theorem D0.split(h:D0 i):aZ (fQ i)=i.ZH :: ii i.ZG :: i.Zm:=Mh i h.lab.noBl (λx a=>(h.syms x a).noBl)
theorem tZ(c:iu z0.1)(a:iu z0.2):aZ (dJ z0)=[⟨#[36,100]⟩,z0.1,z0.2]:=by
 (have e:dJ z0=⟨#[36,100]⟩++(⟨#[32]⟩++z0.1)++(⟨#[32]⟩++z0.2):=by (unfold dJ;have b:(⟨#[36,100,32]⟩:Vq)=⟨#[36,100]⟩++⟨#[32]⟩:=by rfl);rw[b];simp[ByteArray.append_assoc]);rw[e,ni _ _ a,ni _ _ c,lA];{rfl}
 ·intro i d;have a:i<2:=d
  match i,a with
  | 0,_=>rfl
  | 1,_=>rfl
theorem Ij(h:D0 i)(a:i.ZG=2∨i.ZG=3)(d:Vq)(b:Bool):wB d b (fQ i):=by have c:=h.split;refine⟨h.sz,by rw[c];have:=h.pos;grind,VO ⟨by rw[c];exact tP _ _ h.lab,?_⟩⟩;rw[c];simp[kF];rcases a with a | a;{left;rw[a,EZ,Ga];exact⟨rfl,by have:=h.two a;grind⟩};grind [wO,Ga]
theorem Ik(h:D0 i)(d:iZ i.ZG=true)(b:Vq)(e:i.ZH.toList=b.toList):wB b true (fQ i):=by (have c:=h.split;refine⟨h.sz,by rw[c];have:=h.pos;grind,VO ⟨by rw[c];exact tP _ _ h.lab,VO ?_⟩⟩;rw[c];simp only[kF];have a:i.ZG=4∨i.ZG=5:=by grind [iZ]);(rcases a with a | a <;> rw[a]);{rw[Ab,Ga];exact⟨by decide,VO ⟨by decide,VS rfl,by show(i.ZH.toList==b.toList)=true;grind,by simp⟩⟩};{rw[Ac,Ga];exact⟨by decide,VO ⟨by decide,VO rfl,by show(i.ZH.toList==b.toList)=true;grind,by simp⟩⟩}
theorem E3(c:iu z0.1)(d:iu z0.2)(f:z0.1.size<=100000/\z0.2.size<=100000)(b:Vq)(a:Bool):wB b a (dJ z0):=by have e:=tZ z0 c d;refine⟨?_,by grind,by grind [zZ]⟩;grind [dJ,za9,pH]
structure pF(l:List St)(a:Nat):Prop where
 ha:a<l.length
 isa:iZ (l[a]'ha).ZG=true
 ZP:D0 (l[a]'ha)
 hyp:∀n∈ae l a,∃h:n<l.length,D0 l[n]/\(l[n].ZG=2∨l[n].ZG=3)
 prs:∀p∈bS l a,(iu p.1/\iu p.2)/\p.1.size<=100000/\p.2.size<=100000
theorem vB:iu ⟨#[]⟩:=λi a=>absurd (show i<0 from a) (Yo i)
theorem EH(h:∀x∈F,iu x):iu (gD F H):=by unfold gD;rw[Vy];cases e:F[H]? with|none=>exact vB|some x=>exact h x (by grind)
theorem pF.of(h:Nm Ri D)(u:dM D.ZD)(a:Nat)(o:a<D.ZD.length)(g:iZ D.ZD[a].ZG=true):pF D.ZD a:=by (have l:∀s∈D.ZD,s.Zm.length<=10000:=λs t=>by obtain⟨i,q,rfl⟩:=Wa t;exact u.syms i q);(have d:∀n∈ae D.ZD a,∃h:n<D.ZD.length,D0 D.ZD[n]/\(D.ZD[n].ZG=2∨D.ZD[n].ZG=3):=λn f=>by have b:=jT D.ZD a n f;have j:=vm D.ZD a n f b;exact⟨b,h.stw l _ (by simp) (by omega),j⟩);(refine⟨o,g,h.stw l _ (by simp) (by intro e;rw[e]at g;revert g;decide),d,λp r=>⟨?_,Ay D.ZD a h.szs p r⟩⟩;have w:∀x∈bW D.ZD (ae D.ZD a),iu x:=by intro x m;unfold bW at m;have⟨n,f,c⟩:=WO.1 m;have⟨b,k,_⟩:=d n f;unfold ip at c;rw[Vv b]at c;simp only at c;split at c;{cases c;unfold ar;split;{next v => refine(k.syms _ ?_).noBl;grind};{exact vB}};{cases c});grind [bS,AL,sQ,lV,EH]
theorem KH(h:c[n]?=some S)(a:n<c.length):c[n]=S:=by grind
theorem Im(h:pF w n)(a:Vq)(o:(w[n]'h.ha).ZH.toList=a.toList)(k:Nat)(b:k<(bP w n).length):wB a (decide (k+1=(bP w n).length)) (bP w n)[k]:=by have g:=se w n;by_cases f:k<(ae w n).length;{have⟨p,d,c⟩:=h.hyp _ (VR f);rw[KH (De w n k f p) b];exact Ij d c ..};{by_cases q:k<(ae w n).length+(bS w n).length;{obtain⟨j,rfl⟩:∃j,k=(ae w n).length+j:=⟨k-(ae w n).length,by omega⟩;rw[KH (Ai w n j (by omega)) b];have⟨⟨i,l⟩,m⟩:=h.prs _ (VR (show j<(bS w n).length by omega));exact E3 _ i l m ..};{have e:k=(ae w n).length+(bS w n).length:=(by omega);subst e;rw[KH (Ah w n h.ha) b,XD (by omega)];exact Ik h.ZP h.isa a o}}
def mW(l:List St)(n:Nat):Vq:=match l[n]? with | some s=>s.ZH | none=>⟨#[]⟩
theorem U7(h:D0 i)(a:i.ZG=2∨i.ZG=3)(f:Fm):(cR f (aZ (fQ i))).hyps=f.hyps++[i.ZH]/\(cR f (aZ (fQ i))).goal=f.goal:=by rw[h.split];have d:=tP i.ZH (ii i.ZG :: i.Zm) h.lab;rcases a with a | a;{(have b:jQ (i.ZH :: ii i.ZG :: i.Zm) 102=true:=by grind [kF,EZ,Ga]);unfold cR;rw[VL (by grind),VK ⟨b,by simp[h.two a]⟩];exact⟨rfl,rfl⟩};{(have b:jQ (i.ZH :: ii i.ZG :: i.Zm) 102=false:=by grind [kF,wO,Ga]);(have c:jQ (i.ZH :: ii i.ZG :: i.Zm) 101=true:=by grind [kF,wO,Ga]);unfold cR;rw[VL (by grind),VL (by grind),VK c];exact⟨rfl,rfl⟩}
theorem Qx(a:iu z0.1)(b:iu z0.2)(f:Fm):(cR f (aZ (dJ z0))).hyps=f.hyps/\(cR f (aZ (dJ z0))).goal=f.goal:=by grind [tZ,cR,zZ]
theorem Jv(h:D0 i)(c:iZ i.ZG=true)(f:Fm):(cR f (aZ (fQ i))).hyps=f.hyps/\(cR f (aZ (fQ i))).goal=i.Zm:=by (rw[h.split];have b:=tP i.ZH (ii i.ZG :: i.Zm) h.lab;have a:i.ZG=4∨i.ZG=5:=by grind [iZ]);(have d:jQ (i.ZH :: ii i.ZG :: i.Zm) 102=false:=by grind [kF,Ab,Ga,Ac]);(have e:jQ (i.ZH :: ii i.ZG :: i.Zm) 101=false:=by grind [kF,Ab,Ga,Ac]);grind [cR]
theorem CS(a:Vu)(h:∀n∈a,∃h:n<m.length,D0 m[n]/\(m[n].ZG=2∨m[n].ZG=3))(f:Fm) :
  ((a.map (dt m)).foldl (λf x=>cR f (aZ x)) f).hyps=f.hyps++a.map (mW m)/\((a.map (dt m)).foldl (λf x=>cR f (aZ x)) f).goal=f.goal:=by induction a generalizing f with|nil=>simp|cons n a e=>have⟨d,b,c⟩:=h n (by simp);grind [dt,fQ,mW,cR,aZ,U7]
theorem zR(a:List Pr)(h:∀p∈a,iu p.1/\iu p.2)(f:Fm):((a.map dJ).foldl (λf x=>cR f (aZ x)) f).hyps=f.hyps/\((a.map dJ).foldl (λf x=>cR f (aZ x)) f).goal=f.goal:=by induction a generalizing f with|nil=>simp|cons p a c=>simp[List.map_cons,List.foldl_cons];have⟨d,e⟩:=c (λn b=>h n (Yb _ b)) (cR f (aZ (dJ p)));grind [Qx]
theorem EC(h:pF w n):(dQ (bP w n)).hyps=(ae w n).map (mW w)/\(dQ (bP w n)).goal=(w[n]'h.ha).Zm:=by (unfold dQ iF;rw[Wx];unfold bP;rw[WQ,WQ];have a:dt w n=fQ (w[n]'h.ha):=by grind [dt]);simp[List.foldl_cons,List.foldl_nil,a];have⟨c,d⟩:=CS w (ae w n) h.hyp Ch;have⟨i,j⟩:=zR (bS w n) (λp b=>(h.prs p b).1) (((ae w n).map (dt w)).foldl (λf x=>cR f (aZ x)) Ch);have⟨e,g⟩:=Jv h.ZP h.isa (((bS w n).map dJ).foldl (λf x=>cR f (aZ x)) (((ae w n).map (dt w)).foldl (λf x=>cR f (aZ x)) Ch));grind [Ch]
def sZ(T u:Vq):Prop:=∃a,a+u.size<=T.size/\∀i,i<u.size->aB T (a+i)=aB u i
theorem sZ.pre{y:Vq}(h:sZ S (I++y)):sZ S I:=by have⟨a,b,c⟩:=h;rw[VP]at b;refine⟨a,by omega,λi d=>?_⟩;grind [bV]
theorem sZ.cut(b:H<=t.size):sZ t (t.extract u H):=by refine⟨min u H,?_,?_⟩;{rw[WT];omega};{intro i a;rw[WT]at a;grind [ic]}
def MZ(T x:Vq):Prop:=Ri x/\sZ T x
theorem lF(c:x.size<=1024):Nm (MZ x) (bn x).2:=wV _ x (λk b h d=>⟨⟨rh x k b h d,m8 x k c⟩,by
 have⟨a,z,f,e⟩:=Dk x k b h;rw[e];exact sZ.cut x a z f⟩) _ 0 _ (Wp _) Nm.empty
theorem oI(b:¬sZ S I)(l:Vs)(a:∀x∈l,sZ S x)(y:Vq):bu l (I++y)=false:=by grind [bu,zv,sZ.pre]
theorem M0:((C++t).toList==(C++x).toList)=(t.toList==x.toList):=by simp[ByteArray.toList_eq,ByteArray.data_append,Array.toList_append];rw[Xc];simp
def Cd(n:Nat):Vq:=⟨#[UInt8.ofNat (48+n % 10)]⟩
def xC:Nat->Nat->Vq->Vq
 | 0,_,s=>s
 | f+1,n,s=>if 0<n then xC f (n / 10) (Cd n++s) else s
def fn(n:Nat):Vq:=xC 20 (n / 10) (Cd n)
def R1(s:Vq):Nat:=s.toList.foldl (λa b=>a*10+(b.toNat-48)) 0
def EQ(s:Vq):Bool:=s.toList.all (λb=>decide (48<=b.toNat)&&decide (b.toNat<=57))&&decide (0<s.size)&&decide (s.size<=4)
theorem zbb:(List.range 1025).all (λn=>(R1 (fn n)==n)&&EQ (fn n))=true:=by decide +kernel
theorem Ko(h:H<=1024):R1 (fn H)=H/\EQ (fn H)=true:=by grind [zbb]
theorem zbc(b:u<=1024)(a:H<=1024)(h:fn u=fn H):u=H:=by grind [Ko]
theorem zA(a:H<=1024)(i:Nat)(b:i<(fn H).size):48<=aB (fn H) i/\aB (fn H) i<=57:=by have h:=(Ko H a).2;unfold EQ at h;simp only[Bool.and_eq_true,decide_eq_true_eq]at h;have c:=WG.1 h.1.1 (fn H)[i] (by rw[Wh];exact Array.getElem_mem_toList _);grind [bA]
theorem GM(a:H<=1024):0<(fn H).size/\(fn H).size<=4:=by grind [Ko,EQ]
def zF(n:Nat):Vq:=⟨#[122]⟩++fn n++⟨#[122]⟩
theorem zd:(⟨#[122]⟩:Vq).size=1:=rfl
theorem sH:(zF H).size=(fn H).size+2:=by grind [zF,zd]
theorem zg5:aB (zF H) 0=122/\(∀i,i<(fn H).size->aB (zF H) (1+i)=aB (fn H) i)/\aB (zF H) (1+(fn H).size)=122:=by unfold zF;refine⟨?_,?_,?_⟩;{rfl};{grind [bV,zd,bJ,fn]};{have:=bJ (⟨#[122]⟩++fn H) ⟨#[122]⟩ 0 (by rw[zd];omega);rw[WY,VP,zd]at this;rw[this];rfl}
theorem zc8(k:A<=1024)(j:u<=1024)(c:∀i,i<(zF A).size->aB C (H+i)=aB (zF A) i)(d:∀i,i<(zF u).size->aB C (H+i)=aB (zF u) i):A=u:=by (have p:=sH A;have sm:=sH u;have⟨_,m,o⟩:=zg5 A;have⟨_,l,n⟩:=zg5 u;have e:(fn A).size=(fn u).size:=by rcases Y1 (fn A).size (fn u).size with h | h | h;{exfalso;have a:=c (1+(fn A).size) (by omega);have b:=d (1+(fn A).size) (by omega);rw[o]at a;rw[l _ h]at b;have:=zA u j _ h;omega};{exact h};{exfalso;have a:=c (1+(fn u).size) (by omega);have b:=d (1+(fn u).size) (by omega);rw[n]at b;rw[m _ h]at a;have:=zA A k _ h;omega});refine zbc A u k j ?_;apply XZ e;intro i f g;have a:=c (1+i) (by omega);have b:=d (1+i) (by omega);rw[m i f]at a;rw[l i g]at b;rw[bA _ _ f]at a;rw[bA _ _ g]at b;exact UInt8.toNat_inj.1 (by omega)
theorem IA(n:Nat):∀l:Vu,l.Nodup->(∀x∈l,x<n)->l.length<=n:=by
 induction n with
 | zero =>
  intro l _ h;cases l with
  | nil=>simp
  | cons a l=>exact absurd (h a (by simp)) (Yo _)
 | succ n g =>
  intro l c h;by_cases e:n∈l
  ·have d:=g (l.erase n) (c.erase n) (λx f=>by
    have b:=(List.Nodup.mem_erase_iff c).1 f;have:=h x b.2
    omega)
   rw[List.length_erase_of_mem e]at d;omega
  (grind)
theorem Sy(s:x.size<=1024)(h:∀n,n<=x.size->sZ x (zF n)):False:=by (have d:∀n,∃a,n<=x.size->a<x.size/\∀i,i<(zF n).size->aB x (a+i)=aB (zF n) i:=by intro n;by_cases p:n<=x.size;{have⟨a,q,r⟩:=h n p;have:=sH n;exact⟨a,by grind⟩};{exact⟨0,by omega⟩});have⟨f,m⟩:∃f:Nat->Nat,∀n,n<=x.size->f n<x.size/\∀i,i<(zF n).size->aB x (f n+i)=aB (zF n) i:=⟨λn=>Classical.choose (d n),by grind⟩;(have o:((List.range (x.size+1)).map f).Nodup:=by rw[List.nodup_iff_pairwise_ne,List.pairwise_map];refine List.Pairwise.imp_of_mem ?_ (Y8 (n:=x.size+1));intro a b g k c e;have j:=VH.1 g;have l:=VH.1 k;exact c (zc8 x a b (f a) (by omega) (by omega) (m a (by omega)).2 (by grind)));have:=IA x.size _ o (by grind);grind
theorem zge(d:H<=1024)(y:Vq)(m:∀i,i<y.size->fq (aB y i)=true/\aB y i≠36/\j6 (aB y i)=true):Wd (zF H++y)/\dZ (zF H++y)=true:=by (have n:=sH H;have⟨e,c,f⟩:=zg5 H;have b:∀i,i<(zF H++y).size->fq (aB (zF H++y) i)=true/\aB (zF H++y) i≠36/\j6 (aB (zF H++y) i)=true:=by intro i a;by_cases h:i<(zF H).size;{(rw[bV _ _ _ h];have l:aB (zF H) i=122∨(48<=aB (zF H) i/\aB (zF H) i<=57):=by by_cases g:i=0;{grind};{by_cases k:i=1+(fn H).size;{grind};{right;have:=c (i-1) (by omega);rw[show 1+(i-1)=i by omega]at this;rw[this];exact zA H d _ (by omega)}});grind [aB,zF,fq,j6]};{obtain⟨j,rfl⟩:∃j,i=(zF H).size+j:=⟨i-(zF H).size,by omega⟩;grind [bJ]});refine⟨⟨by rw[VP];omega,λi a=>⟨(b i a).1,(b i a).2.1⟩⟩,?_⟩;grind [dZ]
def NZ(s u:Vq)(i:Nat):Bool:=(s.extract i (i+u.size)).toList==u.toList
def Jy(s u:Vq):Bool:=(List.range (s.size+1)).any (λi=>decide (i+u.size<=s.size)&&NZ s u i)
theorem zeT(h:Jy S I=false):¬sZ S I:=by rintro ⟨a,b,c⟩;unfold Jy at h;rw[Y0]at h;refine h a (VH.2 (by omega)) ?_;have:=zD S I a b c;simp[b,NZ,this]
theorem zee(h:Jy S I=true):sZ S I:=by unfold Jy at h;obtain⟨a,-,b⟩:=Xo.1 h;simp only[Bool.and_eq_true,decide_eq_true_eq]at b;have e:=zv b.2;refine⟨a,b.1,λi c=>?_⟩;have:=ic S a (a+I.size) i b.1 (by omega);rw[<-this,e]
theorem SS(r:C.size<=4294967296)(s:t.size<=4294967296) :
  br 55 #[J C,J t] z4 (gG (bool (Jy C t)) z4):=by
 go_enter func55,ntmps55;go_wp2;go_loopg [5] (C.size+1) (λg i wr=>∃k:Nat,k<=C.size+1/\g=C.size+1-k/\i=Y k/\Z (∀i,i<k->i+t.size<=C.size->NZ C t i=false)/\wr=z4);{exact⟨0,by omega,by omega,rfl,λi h=>by omega,rfl⟩};obtain⟨k,q,p,rfl,a,rfl⟩:=hrel;by_cases d:k+t.size<=C.size;{(have l:(k:Int)<=(k:Int)+(t.size:Int):=by omega);(have m:(k:Int)+(t.size:Int)<=(C.size:Int):=by omega);(have n:((k:Int)+(t.size:Int)).toNat=k+t.size:=by omega);cases f:((C.extract k (k+t.size)).toList==t.toList);{go_wp2;go_roundg (C.size+1-(k+1));{refine⟨k+1,by omega,rfl,by go_num,?_,rfl⟩;intro i j b;by_cases e:i=k;{subst e;exact f};{exact a i (by omega) b}};omega};{have c:Z (Jy C t=true):=uD k (by omega) (by simp[d,NZ,f]);go_wp2;go_ret;exact⟨aT c.o.symm,rfl⟩}}
 ·have c:Z (Jy C t=false):=zk (λi j=>by
   by_cases b:i+t.size<=C.size
   ·simp[a.o i (by omega) b]
   ·simp[b])
  go_wp2;go_ret;exact⟨aT c.o.symm,rfl⟩
theorem GL:(convert 148 9 (Q (some (aD z4.heap.size)) 1 1)).run prog (z4.alloc (aK #[int u8 (48+(A:Int) % 10)] 5))=.ok (J (Cd A)) (z4.alloc (aK #[int u8 (48+(A:Int) % 10)] 5)):=by
 (have e:(48+(A:Int) % 10)=((UInt8.ofNat (48+A % 10)).toNat:Int):=by rw[UInt8.toNat_ofNat'];omega);rw[e]
 exact run_convert_bytes_back (z4.alloc (aK #[int u8 ((UInt8.ofNat (48+A % 10)).toNat:Int)] 5)) 148 9 5 (aD z4.heap.size) 1 [UInt8.ofNat (48+A % 10)] underlying148 underlying5 underlying9 (by
  intro j a
  match j,a with
  | 0,_=>simp[Addr.add])
theorem rV:(Cd H).size=1:=rfl
theorem Kn:xC u 0 x=x:=by cases u <;> rfl
theorem mS(z:A<=9999) :
  br 62 #[Y A] z4 (mu (J (fn A)) z4):=by (have i:=λp=>GL A p;have b:0<=(A:Int) % 10/\(A:Int) % 10<=9:=by omega);go_enter func62,ntmps62;go_wp2;go_loopg [0,3] (A / 10) (λg v w wr=>∃(f m:Nat) (s:Vq),g=m/\v=Y m/\w=J s/\m<10 ^ f/\m<=9999/\s.size+f<=21/\Z (xC f m s=fn A)/\aJ z4 wr);{exact⟨20,A / 10,Cd A,rfl,by simp,rfl,by omega,by omega,(by rw[rV];omega),rfl,(ab.refl _ _).alloc _⟩};obtain⟨f,m,s,x,rfl,rfl,t,y,B,q,r⟩:=hrel;by_cases l:0<m;{(have i:=λp=>GL m p;have b:0<=(m:Int) % 10/\(m:Int) % 10<=9:=by omega);(have u:(m:Int) > 0:=by omega);(obtain⟨a,rfl⟩:∃a,f=a+1:=by cases f with|zero=>simp at t;omega|succ a=>exact⟨a,rfl⟩);(have c:Z (xC a (m / 10) (Cd m++s)=fn A):=by show _=_;rw[<-q.o,xC,VK l]);(have j:=rV m;have k:m / 10<10 ^ a:=by rw[Nat.pow_succ]at t;exact YH (by omega));(have n:(Cd m++s).size=1+s.size:=by rw[VP,j]);have d:Z _:=n;go_wp2;go_roundg (m / 10);{exact⟨a,m / 10,Cd m++s,rfl,by simp,rfl,k,by omega,by have:=d.o;omega,c,r.alloc _⟩};omega};{(have e:m=0:=by omega);subst e;have c:Z (s=fn A):=eE (by rw[<-q.o,Kn]);go_wp2;go_ret;exact⟨kM c,r⟩}
theorem OM(o:Option Nat)(w:World)(y:aU w A u x o)(v:dp x) :
  br 60 #[bB A] w λe F=>∃n,n<=1024/\e=cA (J (zF n))/\¬sZ x (zF n)/\aJ w F:=by have l:=v.size;go_enter func60,ntmps60;go_wp2;go_loopg [3] (x.size+1) (λg i wr=>∃k:Nat,k<=x.size+1/\g=x.size+1-k/\i=Y k/\Z (∀j,j<k->sZ x (zF j))/\aJ w wr);{exact⟨0,by omega,by omega,rfl,λi h=>by omega,ab.refl _ _⟩};obtain⟨k,L,I,rfl,a,f⟩:=hrel;have b:=y.Zr f;obtain⟨s,t,-⟩:=b.cells;have B:=b.lt;by_cases D:k<=x.size;{have C:=GM k (by omega);have p:Z (⟨#[122]⟩++fn k++⟨#[122]⟩=zF k):=rfl;have E:=sH k;go_wp2_with fail;refine(mS k wr (by omega)).mono ?_;rintro e G ⟨rfl,m⟩;have c:=b.Zr m;obtain⟨s,t,-⟩:=c.cells;have z:=c.lt;generalize hdk:fn k=H at *;go_wp2_with fail;rw[p.o];refine(SS x (zF k) G (by omega) (by omega)).mono ?_;rintro e N ⟨rfl,rfl⟩;cases d:Jy x (zF k);{have r:Z _:=zeT d;go_wp2;go_ret;rw[p.o];exact⟨k,by omega,rfl,r,f.trans m⟩};{have q:Z _:=zee d;go_wp2;go_roundg (x.size+1-(k+1));{refine⟨k+1,by omega,rfl,by go_num,?_,f.trans m⟩;intro j K;by_cases e:j=k;{subst e;exact q};{exact a j (by omega)}};omega}};{exact(Sy x l (λn M=>a n (by omega))).elim}
theorem Hu(d:z1=10∨z1=32)(b:dU C=false)(c:dU t=false):dU (C++⟨#[z1]⟩++t)=false:=by (rw[oN]at b c ⊢;have g:(⟨#[z1]⟩:Vq).size=1:=rfl;have k:(C++⟨#[z1]⟩++t).size=C.size+1+t.size:=by grind);(have left:∀i,i<C.size->aB (C++⟨#[z1]⟩++t) i=aB C i:=by grind [bV]);(have f:aB (C++⟨#[z1]⟩++t) C.size=(z1.toNat:Int):=by rw[bV _ _ _ (by grind)];have:=bJ C ⟨#[z1]⟩ 0 (by omega);rw[WY]at this;rw[this];rfl);(have right:∀i,i<t.size->aB (C++⟨#[z1]⟩++t) (C.size+1+i)=aB t i:=λi a=>by have:=bJ (C++⟨#[z1]⟩) t i a;rw[VP,g]at this;exact this);(have e:(z1.toNat:Int)≠36/\(z1.toNat:Int)≠91:=by rcases d with rfl | rfl <;> decide);rintro i a ⟨l,m⟩;rw[k]at a;by_cases n:i+1<C.size;{grind};{by_cases o:C.size<i;{obtain⟨j,rfl⟩:∃j,i=C.size+1+j:=⟨i-(C.size+1),by omega⟩;grind};grind}
theorem KJ(L:List (UInt8×Vq))(d:∀y∈L,(y.1=10∨y.1=32)/\dU y.2=false):∀A,dU A=false->dU (A++dA L)=false:=by induction L with|nil=>grind [dA,nil_append]|cons y L f=>(have⟨b,x⟩:=y;intro A h;have⟨a,c⟩:=d (b,x) (by simp);have e:A++dA ((b,x) :: L)=(A++⟨#[b]⟩++x)++dA L:=by simp[dA,ByteArray.append_assoc]);rw[e];exact f (by grind) _ (Hu A x b a h c)
theorem OU(b:Wd x):dU x=false:=by rw[oN];rintro i c ⟨a,-⟩;exact(b.2 i (by omega)).2 a
theorem SU(h:z1≠91):dU (kw z1)=false:=by (rw[oN];rintro i c ⟨b,a⟩;have d:(kw z1).size=2:=rfl;have:i=0:=by omega);subst this;have e:aB (kw z1) (0+1)=(z1.toNat:Int):=rfl;rw[e]at a;exact h (UInt8.toNat_inj.1 (by grind))
def yb(x:Vq):Prop:=Wd x∨∃c:UInt8,x=kw c/\c≠91/\c≠40/\33<=c.toNat/\c.toNat<=126
theorem yb.wrd(h:yb S):Wrd S/\dU S=false:=by rcases h with h | ⟨c,rfl,a,b,d⟩;{exact⟨h.wrd,OU S h⟩};grind [zel,SU]
theorem dp.idle(h:dp S):qC (bn S).2/\(bn S).2.ZI=[]:=by have⟨c,d,_⟩:=h.left;have⟨b,e⟩:=Py c;have a:=AQ S;exact⟨⟨b,a.nne (VS b),a.prf (by omega),d⟩,e⟩
theorem I5(f:dp x)(c:Vq)(L:List (UInt8×Vq))(l:yb c)(k:∀y∈L,(y.1=10∨y.1=32)/\yb y.2)(R:Db->Prop)(h:bI (c :: L.map (·.2)) (bn x).2 (λb=>eH b=false/\R b)) :
  ∃b,bn (x++dA ((10,c) :: L))=((0,0),b)/\R b/\dU (x++dA ((10,c) :: L))=false:=by (have a:∀y∈(10,c) :: L,(y.1=10∨y.1=32)/\yb y.2:=by grind);have⟨b,g,i,j⟩:=h (mE ⟨#[109]⟩ (x++dA ((10,c) :: L)) x.size ((10,c) :: L)) (by rw[Cl];rfl);refine⟨b,P0 x f 10 c L rfl (λy d=>⟨?_,(a y d).2.wrd.1⟩) b g i,j,KJ _ (λy d=>⟨(a y d).1,(a y d).2.wrd.2⟩) x f.inc⟩;rcases(a y d).1 with e | e <;> rw[e] <;> rfl
structure ma(T z:Vq):Prop where
 fresh:¬sZ T z
 wd:∀y:Vq,(∀i,i<y.size->fq (aB y i)=true/\aB y i≠36/\j6 (aB y i)=true)->Wd (z++y)/\dZ (z++y)=true
 size:z.size<=6
theorem zav(a:H<=1024)(h:¬sZ x (zF H)):ma x (zF H):=⟨h,zge H a,by grind [sH,GM]⟩
def md(l:List UInt8):Vq:=⟨l.toArray⟩
theorem Jp:(md y1).toList=y1:=by simp[md]
def iB(l:List UInt8):Bool:=l.all (λb=>fq (b.toNat:Int) && !((b.toNat:Int)==36)&&j6 (b.toNat:Int))
theorem ma.name(h:ma S I)(l:List UInt8)(d:iB l=true):Wd (I++md l)/\dZ (I++md l)=true:=by (refine h.wd _ (λi b=>?_);have a:i<l.length:=by simpa [md,ByteArray.size] using b);(have c:aB (md l) i=((l[i]'a).toNat:Int):=by rw[bA _ _ b];simp[md,ByteArray.getElem_eq_getElem_data]);rw[c];have:=WG.1 d _ (VR a);grind
theorem ma.not_has(h:ma S I)(b:Nm (MZ S) D)(y:Vq):bu D.Zu (I++y)=false/\bu D.Zo (I++y)=false/\bu D.Zp (I++y)=false/\bu D.Zv (I++y)=false/\bu D.Zy (I++y)=false :=
 ⟨oI h.fresh _ (λx a=>(b.lab x a).2) y,oI h.fresh _ (λx a=>(b.con x a).2) y,oI h.fresh _ (λx a=>(b.var x a).2) y,oI h.fresh _ (λx a=>(b.act x a).2) y,oI h.fresh _ (λx a=>(b.typ x a).2) y⟩
theorem mD:bu (O++F) x=(bu O x||bu F x):=by grind [bu]
theorem EJ:bu [t] x=(t.toList==x.toList):=by unfold bu;simp
def Fk(z:Vq):List (UInt8×Vq):=[(32,z++md [113]),(32,kw 46),(32,z++md [97]),(32,kw 97),(32,z++md [113]),(32,kw 46)]
theorem PC(i:dp t)(e:ma t x):bI (kw 99 :: (Fk x).map (·.2)) (bn t).2 (λf=>eH f=false/\∃p,f.ZD=(bn t).2.ZD++[⟨4,x++md [97],[x++md [113]],[],p,0⟩]):=by (have⟨c,j⟩:=i.idle;have k:=lF t i.size;generalize (bn t).2=d at *;have⟨q,F⟩:=e.name [113] (by decide);have⟨m,n⟩:=e.name [97] (by decide);have⟨B,C,D,_,_⟩:=e.not_has k (md [113]);have⟨w,z,A,_,_⟩:=e.not_has k (md [97]);have E:((x++md [113]).toList==(x++md [97]).toList)=false:=by grind [M0,Jp]);show bI ([kw 99,x++md [113],kw 46]++[x++md [97],kw 97,x++md [113],kw 46]) d _;refine bI.append (zf3 c j (x++md [113]) q (by grind [dq])) ?_;rintro u rfl;have g:qC { d with Zo:=d.Zo++[x++md [113]],ZH:=⟨#[]⟩ }:=⟨c.ZG,c.syms,c.prf,c.pr⟩;refine(Ma g (x++md [97]) m n ?_ 97 4 (by simp) [x++md [113]] (by grind) (by simp) (by simp) ?_).mono ?_;{grind [dq,mD,EJ]};{(intro b y l o;have v:b=[]:=by cases b with|nil=>rfl|cons a b=>simp at o);grind [md,aP,fD,bu,Hl]};{rintro f ⟨p,rfl⟩;refine⟨?_,p,rfl⟩;show eH { d with ZG:=d.ZG,ZI:=d.ZI }=false;unfold eH;rw[c.ZG,j];rfl}
theorem Lw:t++⟨#[10,36,99,32]⟩++x++⟨#[113,32,36,46,32]⟩++x++⟨#[97,32,36,97,32]⟩++x++⟨#[113,32,36,46]⟩=t++dA ((10,kw 99) :: Fk x):=by apply Yk;apply Array.toList_inj.1;simp[Fk,dA,kw,md]
theorem Av(c:dp t)(b:ma t x):∃a p,bn (t++dA ((10,kw 99) :: Fk x))=((0,0),a)/\a.ZD=(bn t).2.ZD++[⟨4,x++md [97],[x++md [113]],[],p,0⟩]/\dU (t++dA ((10,kw 99) :: Fk x))=false:=by
 have⟨a,f,⟨p,g⟩,i⟩:=I5 t c (kw 99) (Fk x) (VO ⟨99,rfl,by decide⟩) (λy d=>by
  have e:=(b.name [113] (by decide)).1;simp[Fk,List.mem_cons,List.not_mem_nil,or_false]at d;rcases d with rfl | rfl | rfl | rfl | rfl | rfl
  ·exact⟨VO rfl,VS e⟩
  ·exact⟨VO rfl,VO ⟨46,rfl,by decide⟩⟩
  ·exact⟨VO rfl,VS ((b.name [97] (by decide)).1)⟩
  ·exact⟨VO rfl,VO ⟨97,rfl,by decide⟩⟩
  ·exact⟨VO rfl,VS e⟩
  ·exact⟨VO rfl,VO ⟨46,rfl,by decide⟩⟩) _ (PC t x c b)
 (grind)
theorem R4:(List.range 4200).all (λn=>(R1 (fn n)==n)&&iB (fn n).toList)=true:=by decide +kernel
theorem yF(h:n<4200):R1 (fn n)=n/\iB (fn n).toList=true:=by grind [R4]
theorem uN(b:n<4200)(a:G<4200)(h:(fn n).toList=(fn G).toList):n=G:=by grind [yF,R1]
def bare(s:St):St:={ s with Zx:=[],ZK:=cD }
def nm(z:Vq)(l:List UInt8):Vq:=z++md l
theorem tX(b:List UInt8):((nm x y1).toList==(nm x b).toList)=(y1==b):=by grind [nm,M0,Jp]
theorem zU(b:List (List UInt8))(a:List UInt8):bu (b.map (nm x)) (nm x a)=b.contains a:=by grind [bu,tX]
theorem SN(v l:Vs)(x:Vq):bu (cP v l) x=(bu v x||bu l x):=by unfold cP;induction l generalizing v with|nil=>simp[bu]|cons a l b=>grind [bu,C0,mD,EJ]
structure InB(z:Vq)(d0 d:Db)(ls tv:List (List UInt8))(N:List St):Prop where
 idle:qC d
 ZF:d.ZI=[(d0.Zv.length,d0.Zy.length)]
 rbl:d.rbl=d0.rbl++[d0.ZD.length]
 lab:d.Zu=d0.Zu++ls.map (nm z)
 con:d.Zo=d0.Zo++[nm z [99]]
 var:d.Zp=cP d0.Zp ([[48],[49],[50]].map (nm z))
 act:d.Zv=d0.Zv++[[48],[49],[50]].map (nm z)
 typ:d.Zy=d0.Zy++tv.map (nm z)
 ZD:∃M,d.ZD=d0.ZD++M/\M.map bare=N
 nol:d.ZH=⟨#[]⟩
theorem lk(c:ma S I)(a:List UInt8)(b:iB a=true):Wd (nm I a)/\dZ (nm I a)=true:=c.name a b
def xu(s:St):St:={ s with Zx:=s.Zx.map (λx=>(x.1,cD)),ZK:=cD }
theorem zcK(h:D.ZG=6)(p:Pl):aV D (kw 112) p=(0,{ D with ZG:=5 }):=by grind [aV,bj,kG]
theorem zcJ{d:Db}(h:d.ZG=5)(b:d.Zq=false)(c:d.Zm.length≠0)(p:Pl):aV d (kw 61) p=(0,{ d with Zq:=true }):=by grind [aV,kG,cI]
theorem zcM(h:D.ZG=5)(b:D.Zq=true)(x:Vq)(a:Wd x)(p:Pl):aV D x p=(0,{ D with Zx:=D.Zx++[(x,p)] }):=by unfold aV;rw[VL (by grind),VL (by grind),VL (by rw[a.notKey];simp),VL (by grind),VL (by rw[a.noDollar];simp),VK b]
theorem zcv(a:Vs):∀(d:Db),d.ZG=5->d.Zq=true->(∀y∈a,Wd y)->bI a d (λf=>∃e:List (Vq×Pl),e.map (·.1)=a/\f={ d with Zx:=d.Zx++e }):=by induction a with|nil=>simp[bI.nil]|cons y l j=>intro d g i k;refine bI.cons (R:=λc=>∃p,c={ d with Zx:=d.Zx++[(y,p)] }) (by grind [zcM]) ?_;rintro c ⟨p,rfl⟩;refine(j { d with Zx:=d.Zx++[(y,p)] } g i (by grind)).mono ?_;grind
theorem zf4(h:qC D)(a:Vq)(B:Wd a)(z:dZ a=true)(A:dq D a=false)(c:Vs)(s:∀y∈c,Wd y)(n:1<=c.length)(k:Vs)(l:∀y∈k,Wd y)(o:∀(b:Vs) y f,c=b++y :: f->aP { D with ZG:=5,Zm:=b } y=0) :
  bI (a :: kw 112 :: (c++kw 61 :: (k++[kw 46]))) D (λm=>∃p j,j.map (·.1)=k/\m={ D with Zu:=D.Zu++[a],ZD:=D.ZD++[⟨5,a,c,j,p,0⟩],ZH:=⟨#[]⟩ }):=by
 refine bI.cons (R:=λd=>d={ D with Zu:=D.Zu++[a],ZH:=a,ZG:=6 }) (by grind [Bu]) ?_;rintro d rfl;refine bI.cons (R:=λd=>d={ D with Zu:=D.Zu++[a],ZH:=a,ZG:=5 }) (by grind [zcK]) ?_;rintro d rfl;refine bI.append (R:=λd=>d={ D with Zu:=D.Zu++[a],ZH:=a,ZG:=5,Zm:=c }) ?_ ?_;{refine(Bd c { D with Zu:=D.Zu++[a],ZH:=a,ZG:=5 } (by simp) (by simp) h.prf s ?_).mono ?_;{(intro b y f q;have x:=o b y f q;have e:aP { D with Zu:=D.Zu++[a],ZH:=a,ZG:=5,Zm:=D.Zm++b } y=aP { D with ZG:=5,Zm:=b } y:=by rw[h.syms];rfl);grind};{rintro m rfl;simp[h.syms]}};rintro d rfl
 refine bI.cons (R:=λd=>d={ D with Zu:=D.Zu++[a],ZH:=a,ZG:=5,Zm:=c,Zq:=true }) (λp=>by
  rw[zcJ (d:={ D with Zu:=D.Zu++[a],ZH:=a,ZG:=5,Zm:=c }) rfl h.prf (by grind) p];simp) ?_
 (rintro d rfl;refine bI.append (zcv k { D with Zu:=D.Zu++[a],ZH:=a,ZG:=5,Zm:=c,Zq:=true } rfl rfl l) ?_;rintro d ⟨j,r,rfl⟩;refine bI.one (λp=>?_);have e:aV { D with Zu:=D.Zu++[a],ZH:=a,ZG:=5,Zm:=c,Zq:=true,Zx:=D.Zx++j } (kw 46) p=(0,{ D with Zu:=D.Zu++[a],ZD:=D.ZD++[⟨5,a,c,j,p,0⟩],ZH:=⟨#[]⟩ }):=by unfold aV;rw[VL (by simp),VL (by simp),VK (by rw[kG];rfl)];unfold lN;rw[VL (by show ¬((c.length:Int)<(if((5:Int)==1)=true∨((5:Int)==2)=true then 2 else 1));grind),VL (by simp)];have t:=h.ZG;have u:=h.syms;have v:=h.prf;have w:=h.pr;grind [cJ,eD,s8]);(grind)
structure nI(z:Vq)(d0 d:Db)(B:List (Nat×Nat))(R:Vu)(ls vs tv:List (List UInt8))(N:List St):Prop where
 idle:qC d
 ZF:d.ZI=B
 rbl:d.rbl=R
 lab:d.Zu=d0.Zu++ls.map (nm z)
 con:d.Zo=d0.Zo
 var:∀a:List UInt8,bu d.Zp (nm z a)=true->a.headD 0=120∨a.headD 0=121
 act:d.Zv=d0.Zv++vs.map (nm z)
 typ:d.Zy=d0.Zy++tv.map (nm z)
 ZD:∃M,d.ZD=d0.ZD++M/\M.map xu=N
 nol:N≠[]->d.ZH=⟨#[]⟩
 sub:∀v∈tv,v∈vs
section
variable {T z:Vq} {d0 d:Db} {B:List (Nat×Nat)} {R:Vu} {ls vs tv:List (List UInt8)} {N:List St}
theorem xA{l:List (List UInt8)}:l.contains s=true ↔ s∈l:=XI
theorem nI.free(h:nI z d0 d B R ls vs tv N)(i:ma T z)(g:Nm (MZ T) d0)(l:s∉ls)(m:s.headD 0≠120/\s.headD 0≠121):dq d (nm z s)=false:=by (have⟨j,k,_,_,_⟩:=i.not_has g (md s);have a:bu d0.Zu (nm z s)=false:=j;have b:bu d0.Zo (nm z s)=false:=k;have c:bu d.Zp (nm z s)=false:=by cases f:bu d.Zp (nm z s);{rfl};{rcases h.var s f with q | q;{grind};grind});(have e:ls.contains s=false:=by grind);unfold dq;rw[h.lab,h.con,mD,zU,a,b,c,e];rfl
theorem nI.freeV(h:nI z d0 d B R ls vs tv N)(i:ma T z)(g:Nm (MZ T) d0)(m:s∉ls)(n:s∉vs):eP d (nm z s)=false:=by (have⟨j,k,_,l,_⟩:=i.not_has g (md s);have a:bu d0.Zu (nm z s)=false:=j;have b:bu d0.Zo (nm z s)=false:=k;have c:bu d0.Zv (nm z s)=false:=l;have e:ls.contains s=false:=by grind);(have f:vs.contains s=false:=by grind);unfold eP;rw[h.lab,h.con,h.act,mD,zU,mD,zU,a,b,c,e,f];rfl
theorem nI.hasT(h:nI z d0 d B R ls vs tv N)(e:ma T z)(c:Nm (MZ T) d0)(a:List UInt8):bu d.Zy (nm z a)=tv.contains a:=by have⟨_,_,_,_,f⟩:=e.not_has c (md a);have b:bu d0.Zy (nm z a)=false:=f;rw[h.typ,mD,zU,b];rfl
theorem nI.hasA(h:nI z d0 d B R ls vs tv N)(a:s∈vs):bu d.Zv (nm z s)=true:=by rw[h.act,mD,zU,xA.2 a,YR]
theorem nI.v(h:nI z d0 d B R ls vs tv N)(e:ma T z)(k:Nm (MZ T) d0)(i:iB s=true)(f:s∉ls)(g:s∉vs)(n:s.headD 0=120∨s.headD 0=121) :
  bI [kw 118,nm z s,kw 46] d (λc=>nI z d0 c B R ls (vs++[s]) tv N):=by
 have⟨o,_⟩:=lk e s i
 refine(Jj h.idle 118 8 (by simp) [nm z s] (by grind) (by simp) (by simp) (Y9 ..) (λy m=>by
  rw[VK rfl,VI.1 m];exact h.freeV e k f g)).mono ?_
 rintro c ⟨p,rfl⟩;rw[VK rfl];refine⟨⟨rfl,rfl,rfl,rfl⟩,h.ZF,h.rbl,h.lab,h.con,λb j=>?_,?_,h.typ,h.ZD,λ_=>rfl,λv l=>Wu _ (h.sub v l)⟩;{have a:bu (cP d.Zp [nm z s]) (nm z b)=true:=j;rw[SN,EJ,tX,Yp]at a;rcases a with q | q;{exact h.var b q};grind};{show d.Zv++[nm z s]=_;rw[h.act];simp}
theorem Gy(g:2<=z6/\z6<=5)(d:Db)(a:Vs)(y:Vq):aP { d with ZG:=z6,Zm:=a } y=if a.length=0 then(if bu d.Zo y=false then 17 else 0) else if z6=2 then eI { d with ZG:=z6,Zm:=a } y else dY { d with ZG:=z6,Zm:=a } y:=by (have e:(z6==7)=false:=by grind);(have f:(z6==8)=false:=by grind);(have c:(z6==1)=false:=by grind);unfold aP;simp[e,f,c,Bool.false_eq_true,if_false,beq_iff_eq];rfl
theorem nI.f(h:nI z d0 d B R ls vs tv N)(c:ma T z)(g:Nm (MZ T) d0)(r:iB z3=true)(o:iB s=true)(k:z3∉ls)(l:z3.headD 0≠120/\z3.headD 0≠121)(m:s∈vs)(A:s∉tv)(u:Wd S)(D:bu d0.Zo S=true) :
  bI (nm z z3 :: kw 102 :: ([S,nm z s]++[kw 46])) d (λe=>nI z d0 e B R (ls++[z3]) vs (tv++[s]) (N++[⟨2,nm z z3,[S,nm z s],[],cD,0⟩])):=by have⟨w1,x⟩:=lk c z3 r;have⟨F,_⟩:=lk c s o;refine(Ma h.idle (nm z z3) w1 x (h.free c g k l) 102 2 (by simp) [S,nm z s] (λy a=>?_) (by simp) (λ_=>rfl) ?_).mono ?_;{rcases WC.1 a with rfl | a;{exact u};{rwa [VI.1 a]}};{intro b y i t;rw[Gy (by omega)];rcases b with _ | ⟨q,_ | ⟨E,b⟩⟩;{have a:S=y:=(by grind);rw[VK (by rfl),<-a,h.con,VL (by grind)]};{(have a:nm z s=y:=(by grind);rw[VL (by simp),VK rfl,<-a];unfold eI;have j:tv.contains s=false:=by grind);rw[VL (by simp),VL (by show ¬bu d.Zv (nm z s)=false;rw[h.hasA m];simp),VL (by show ¬bu d.Zy (nm z s)=true;rw[h.hasT c g,j];simp)]};{have:=congrArg List.length t;simp at this}};{rintro e ⟨p,rfl⟩;have⟨M,C,n⟩:=h.ZD;refine⟨⟨h.idle.ZG,h.idle.syms,h.idle.prf,h.idle.pr⟩,h.ZF,h.rbl,?_,h.con,h.var,h.act,?_,⟨M++[⟨2,nm z z3,[S,nm z s],[],p,0⟩],?_,?_⟩,λ_=>rfl,λv w=>?_⟩;{show d.Zu++[nm z z3]=_;rw[h.lab];simp};{show d.Zy++[nm z s]=_;rw[h.typ];simp};{grind};{rw[VW,n];rfl};{rcases VJ.1 w with q | q;{exact h.sub v q};grind}}
def SyK(d0:Db)(z:Vq)(tv:List (List UInt8))(y:Vq):Prop:=(Wd y/\bu d0.Zo y=true)∨∃v,v∈tv/\iB v=true/\y=nm z v
theorem nI.chk(h:nI z d0 d B R ls vs tv N)(j:ma T z)(g:Nm (MZ T) d0)(o:3<=z6/\z6<=5)(m:bu d0.Zo S=true)(i:∀y∈c,SyK d0 z tv y)(a:Vs)(y:Vq)(b:Vs)(n:S :: c=a++y :: b):aP { d with ZG:=z6,Zm:=a } y=0:=by rw[Gy (by omega)];cases a with|nil=>(have e:S=y:=by grind);rw[VK (by rfl),<-e,h.con,VL (by grind)]|cons q a=>{(have e:c=a++y :: b:=by grind);rw[VL (by simp),VL (by omega)];unfold dY;rcases i y (by grind) with ⟨-,f⟩ | ⟨v,f,-,k⟩;{rw[VK (by show bu d.Zo y=true;rwa [h.con])]};{subst k;split;{rfl};{rw[VL (by show ¬bu d.Zv (nm z v)=false;rw[h.hasA (h.sub v f)];simp),VL (by show ¬bu d.Zy (nm z v)=false;rw[h.hasT j g,xA.2 f];simp)]}}}
theorem Ml(a:ma T z)(h:SyK d0 z tv S):Wd S:=by rcases h with ⟨q,-⟩ | ⟨v,-,q,rfl⟩;{exact q};{exact(lk a v q).1}
theorem nI.st(h:nI z d0 d B R ls vs tv N)(f:ma T z)(j:Nm (MZ T) d0)(r:iB s=true)(m:s∉ls)(n:s.headD 0≠120/\s.headD 0≠121)(b:UInt8)(k:Int)(D:(b=101/\k=3)∨(b=97/\k=4))(w:Wd S)(t:bu d0.Zo S=true)(l:∀y∈c,SyK d0 z tv y) :
  bI (nm z s :: kw b :: ((S :: c)++[kw 46])) d (λi=>nI z d0 i B R (ls++[s]) vs tv (N++[⟨k,nm z s,S :: c,[],cD,0⟩])):=by (have v:k=3∨k=4:=by omega);have⟨x,A⟩:=lk f s r;refine(Ma h.idle (nm z s) x A (h.free f j m n) b k (by grind) (S :: c) (λy q=>?_) (by simp) (λe=>by omega) (λg y a u=>h.chk f j (by omega) t l g y a u)).mono ?_;{rcases WC.1 q with rfl | q;{exact w};{exact Ml f (l y q)}};{rintro i ⟨p,rfl⟩;have⟨M,C,o⟩:=h.ZD;refine⟨⟨h.idle.ZG,h.idle.syms,h.idle.prf,h.idle.pr⟩,h.ZF,h.rbl,?_,h.con,h.var,h.act,?_,⟨M++[⟨k,nm z s,S :: c,[],p,0⟩],?_,?_⟩,λ_=>rfl,h.sub⟩;{show d.Zu++[nm z s]=_;rw[h.lab];simp};{(show(if k=2 then _ else d.Zy)=_);rw[VL (by omega)];exact h.typ};{grind};{rw[VW,o];rfl}}
theorem nI.p(h:nI z d0 d B R ls vs tv N)(e:ma T z)(j:Nm (MZ T) d0){b:List UInt8}(o:iB b=true)(l:b∉ls)(m:b.headD 0≠120/\b.headD 0≠121){ws:Vs}(t:Wd S)(r:bu d0.Zo S=true)(k:∀y∈c,SyK d0 z tv y)(u:∀y∈ws,Wd y) :
  bI (nm z b :: kw 112 :: ((S :: c)++kw 61 :: (ws++[kw 46]))) d (λi=>nI z d0 i B R (ls++[b]) vs tv (N++[⟨5,nm z b,S :: c,ws.map (λx=>(x,cD)),cD,0⟩])):=by have⟨w,A⟩:=lk e b o;refine(zf4 h.idle (nm z b) w A (h.free e j l m) (S :: c) (λy q=>?_) (by simp) ws u (λg y a s=>h.chk e j (by omega) r k g y a s)).mono ?_;{rcases WC.1 q with rfl | q;{exact t};{exact Ml e (k y q)}};{rintro i ⟨p,v,f,rfl⟩;have⟨M,C,n⟩:=h.ZD;refine⟨⟨h.idle.ZG,h.idle.syms,h.idle.prf,h.idle.pr⟩,h.ZF,h.rbl,?_,h.con,h.var,h.act,h.typ,⟨M++[⟨5,nm z b,S :: c,v,p,0⟩],?_,?_⟩,λ_=>rfl,h.sub⟩;{show d.Zu++[nm z b]=_;rw[h.lab];simp};{grind};{rw[VW,n,Xk];unfold xu;rw[<-f,WU];rfl}}
theorem nI.op(h:nI z d0 d B R ls vs tv N):bI [kw 123] d (λa=>nI z d0 a (B++[(d0.Zv.length+vs.length,d0.Zy.length+tv.length)]) (R++[d0.ZD.length+N.length]) ls vs tv N):=by refine(UP h.idle).mono ?_;rintro a rfl;have⟨M,b,c⟩:=h.ZD;refine⟨⟨h.idle.ZG,h.idle.syms,h.idle.prf,h.idle.pr⟩,?_,?_,h.lab,h.con,h.var,h.act,h.typ,⟨M,b,c⟩,h.nol,h.sub⟩;{show d.ZI++[(d.Zv.length,d.Zy.length)]=_;rw[h.ZF,h.act,h.typ];simp};{show d.rbl++[d.ZD.length]=_;rw[h.rbl,b,<-c];simp}
def Kp(m E:Nat)(N:List St):List St:=N.mapIdx (λi s=>if m<=i then fP E s else s)
theorem Ol(E:Nat)(s:St):xu (fP E s)=fP E (xu s):=by grind [fP,xu]
theorem Ks(l M:List St)(m:Nat):dy (l++M) (l.length+m)=l++Kp m (l.length+M.length) M:=by apply WW;grind [iE,Kp]
theorem nI.cl{b:List (Nat×Nat)}{c:Vu}{k:Nat}(h:nI z d0 d (b++[(d0.Zv.length+n,d0.Zy.length+k)]) (c++[d0.ZD.length+G]) ls vs tv N)(a:∀v∈tv.take k,v∈vs.take n) :
  bI [kw 125] d (λf=>nI z d0 f b c ls (vs.take n) (tv.take k) (Kp G (d0.ZD.length+N.length) N)):=by (refine(Qm h.idle (d0.Zv.length+n,d0.Zy.length+k) (by rw[h.ZF];simp)).mono ?_;rintro f rfl;have⟨M,j,g⟩:=h.ZD;have e:fE d (d0.Zv.length+n,d0.Zy.length+k)={ dN d d.ZI.dropLast (d0.Zv.length+n,d0.Zy.length+k) with rbl:=d.rbl.dropLast,ZD:=dy d.ZD (d0.ZD.length+G) }:=by unfold fE;rw[h.rbl];simp);rw[e];refine⟨⟨h.idle.ZG,h.idle.syms,h.idle.prf,h.idle.pr⟩,?_,?_,h.lab,h.con,h.var,?_,?_,⟨Kp G (d0.ZD.length+M.length) M,?_,?_⟩,λq=>h.nol (λe=>q (by rw[e];rfl)),a⟩;{show d.ZI.dropLast=_;rw[h.ZF];simp};{show d.rbl.dropLast=_;rw[h.rbl];simp};{show d.Zv.take (d0.Zv.length+n)=_;rw[h.act,YS,Yl]};{show d.Zy.take (d0.Zy.length+k)=_;rw[h.typ,YS,Yl]};{grind [dy,Ks]};{unfold Kp;rw[<-g,VX];apply WW;grind [Ol]}
theorem nI.start(c:qC d0)(d:Nm (MZ T) d0)(e:ma T z):nI z d0 d0 d0.ZI d0.rbl [] [] [] [] :=
 ⟨c,rfl,rfl,by simp,rfl,(λa b=>by rw[show bu d0.Zp (nm z a)=false from(e.not_has d (md a)).2.2.1]at b;cases b),by simp,by simp,by simp,by simp,by simp⟩
end
def jK(c:UInt8)(i:Nat):List UInt8:=c :: (fn i).toList
def vR(c:UInt8)(i:Nat):List UInt8:=102 :: c :: (fn i).toList
theorem Vc{c:UInt8}(a:n<4200)(b:G<4200)(h:jK c n=jK c G):n=G:=uN a b (Xd h).2
theorem Lr(h:nm S s=nm S z3):s=z3:=by grind [tX]
section
variable {T z:Vq} {d0 d:Db} {B:List (Nat×Nat)} {R:Vu}
structure zgv(l L:List St)(z:Vq)(ts g ws:Vs):Prop where
 pre:∃M,L=l++M
 len:L.length=l.length+ts.length+1
 flt:∀i,i<ts.length->∃p,L[l.length+i]?=some ⟨2,nm z (vR 120 i),[gD ts i,nm z (jK 120 i)],[],p,L.length⟩
 thm:∃p ps,ps.map (·.1)=ws/\L[l.length+ts.length]?=some ⟨5,nm z [110],g,ps,p,0⟩
theorem zq(h:xu i=z5):i.ZG=z5.ZG/\i.ZH=z5.ZH/\i.Zm=z5.Zm/\i.Zx.map (·.1)=z5.Zx.map (·.1)/\i.til=z5.til:=by subst h;refine⟨rfl,rfl,rfl,?_,rfl⟩;show _=(i.Zx.map _).map _;rw[WU];rfl
end
def ot(l:List St):Prop:=∀s∈l,s.til<=l.length
theorem zcN(h:ot w)(y:Nat):ot (dy w y):=by intro s c;have⟨i,a⟩:=Ya c;rw[tK];rw[iE]at a;cases b:w[i]? with|none=>grind|some d=>rw[b]at a;simp[Option.map_some,Option.some.injEq]at a;have e:=h d (by grind);grind [fP]
theorem Vk(h:ot D.ZD)(x:Vq)(p:Pl):ot (aV D x p).2.ZD:=by rcases rJ D x p with e | ⟨y,-,e⟩ | ⟨e,-⟩;{rwa [e]};{rw[e];exact zcN h y};{rw[e];intro s a;rw[Vz];rcases VJ.1 a with a | a;{have:=h s a;omega};grind}
theorem Vj(f:Nat):∀k d,ot d.ZD->ot (dC t x f k d).2.ZD:=by induction f with|zero=>intro k d h;exact h|succ f a=>grind [dC,Vk]
theorem NJ:ot (bn x).2.ZD:=Vj _ _ _ 0 bN (by intro s a;simp[bN]at a)
theorem wL:cL (o.map bare) u H=cL o u H:=by unfold cL;rw[Wt];cases o[u]? <;> rfl
theorem xh:symsAt (o.map bare) H=symsAt o H:=by unfold symsAt;rw[Wt];cases o[H]? <;> rfl
theorem Sa:og (o.map bare) u H=og o u H:=by unfold og;rw[Wt,wL];cases o[H]? <;> rfl
theorem Jz:cy (o.map bare) H=cy o H:=by unfold cy fX;rw[xh,VX];congr 1;rw[show og (o.map bare) H=og o H from funext (Sa o H),show symsAt (o.map bare)=symsAt o from funext (xh o)]
theorem Pf:fp (E.map bare) F u H=fp E F u H:=by unfold fp;rw[Wt,wL];cases E[H]? <;> rfl
theorem C4:ae (o.map bare) H=ae o H:=by unfold ae eC;rw[Jz,VX];rw[show fp (o.map bare) (cy o H) H=fp o (cy o H) H from funext (Pf o _ H)]
theorem QN:bW (m.map bare) z7=bW m z7:=by unfold bW;rw[show ip (m.map bare)=ip m from funext (λn=>by unfold ip;rw[Wt];cases m[n]? <;> rfl)]
theorem Oy:kV (o.map bare) u H=kV o u H:=by unfold kV;rw[Wt,wL];cases o[H]? <;> rfl
theorem E6(k:Nat):cO (E.map bare) A F k=cO E A F k:=by induction k with|zero=>rfl|succ k a=>grind [cO,Oy,xh]
theorem Dd:dt (o.map bare) H=dt o H:=by unfold dt;rw[Wt];cases o[H]? <;> rfl
theorem Lh:bP (o.map bare) H=bP o H:=by unfold bP bS bT;rw[C4,QN,VX,E6,Dd,show dt (o.map bare)=dt o from funext (Dd o)]
theorem iA:List.range (u+H)=List.range u++(List.range H).map (u + ·):=Yx
def oE(l:List St)(n:Nat):Bool:=match l[n]? with | some s=>(s.ZG==3)&&(s.til==0) | none=>false
def oS(l:List St):Vs:=((List.range l.length).filter (oE l)).flatMap (symsAt l)
def oH(l:List St)(n:Nat):Bool:=match l[n]? with | some s=>(s.til==0)&&iU s (oS l) | none=>false
def pn(l:List St):Vu:=(List.range l.length).filter (oH l)
def oV(l:List St):Vs:=bW l (pn l)
def oD(l:List St)(n:Nat):Bool:=match l[n]? with | some s=>(s.ZG==1)&&(s.til==0) | none=>false
def oT(l:List St)(vs:Vs)(i j:Nat):Bool:=(List.range l.length).any (λn=>oD l n&&(aQ vs (symsAt l n)).contains i&&(aQ vs (symsAt l n)).contains j)
structure Own(T:Vq)(l:List St):Prop where
 til:ot l
 syms:∀s∈l,∀x∈s.Zm,sZ T x
def qr(z:Vq)(L:Vs):Prop:=∀x∈L,∃a,x=nm z a
theorem Lx(a:dp x):Own x (bn x).2.ZD:=⟨NJ x,λs b d c=>(((lF x a.size).ZD s b).syms d c).2⟩
theorem Dn(b:ma S I)(v:Vq)(c:sZ S v)(a:List UInt8):((nm I a).toList==v.toList)=false:=by cases e:((nm I a).toList==v.toList);{rfl};{exact absurd (sZ.pre (y:=md a) (by have:=zv e;unfold nm at this;rwa [this])) b.fresh}
theorem No(e:ma S I)(v:Vq)(c:sZ S v)(L:Vs)(b:qr I L):bu L v=false:=by unfold bu;rw[Y0];intro x d;obtain⟨a,rfl⟩:=b x d;rw[Dn e v c a];simp
theorem uX(c:ot w)(n a:Nat)(b:n<w.length)(d:w.length<=a):cL (w++r) n a=(w[n].til==0):=by unfold cL;rw[Wc b,Vv b];have:=c _ (VR b);grind
theorem zbj(d:ot w)(n a:Nat)(c:n<w.length)(b:w.length<=a):og (w++r) a n=oE w n:=by grind [og,oE,uX]
theorem R6(d:ot w)(n a:Nat)(c:n<w.length)(b:w.length<=a):kV (w++r) a n=oD w n:=by grind [kV,oD,uX]
theorem Bo(a:H<E.length):symsAt (E++o) H=symsAt E H:=by grind [symsAt]
theorem uj:symsAt (E++o) (E.length+H)=symsAt o H:=by grind [symsAt]
theorem FH(b:ot w)(a:Nat):cy (w++r) (w.length+a)=symsAt r a++(oS w++nS w r (w.length+a)):=by unfold cy fX;rw[uj,Vz,iA,Wf,Wn];congr 2;{unfold oS;have e:(List.range w.length).filter (og (w++r) (w.length+a))=(List.range w.length).filter (oE w):=Xt (by grind [zbj]);grind [lq,Bo]};{unfold nS;rw[XX,Za];exact lq _ _ _ (by grind [uj])}
theorem qr.symsAt(h:∀s∈w,qr S s.Zm)(j:Nat):qr S (symsAt w j):=by unfold Go.Proofs.YtnbalopedcgpcaaGreat.symsAt;cases e:w[j]? with|none=>intro x a;grind|some s=>exact h s (by grind)
theorem qr.nS(h:∀s∈r,qr S s.Zm)(a:Nat):qr S (nS w r a):=by intro x b;unfold Go.Proofs.YtnbalopedcgpcaaGreat.nS at b;have⟨j,_,c⟩:=Wk.1 b;exact qr.symsAt h j x c
theorem Mx(h:Own S w)(s:St)(c:s∈w)(b:(s.ZG==2)=true)(a:2<=s.Zm.length):sZ S (ar s):=by unfold ar;rw[VK ⟨b,a⟩];refine h.syms s c _ ?_;grind
def uB(l:List St):Prop:=∀s∈l,(s.ZG==2)=true->2<=s.Zm.length
theorem KN(f:ma S I)(h:Own S w)(g:uB w)(c:∀s∈r,qr I s.Zm)(b:Nat) :
  ae (w++r) (w.length+b)=pn w++((List.range r.length).filter (λj=>fp (w++r) (cy (w++r) (w.length+b)) (w.length+b) (w.length+j))).map (w.length + ·):=by unfold ae eC;rw[Vz,iA,Wf,XX];congr 1;unfold pn;refine Xt (λn a=>?_);have a:=VH.1 a;unfold fp oH;rw[uX h.til n _ a (by omega),Wc a,Vv a];simp only;congr 1;unfold iU;cases d:(w[n].ZG==2);{rfl};{simp[if_true];have e:=Mx h _ (by simp) d (g _ (by simp) d);rw[FH h.til,mD,mD,No f _ e _ (qr.symsAt c b),No f _ e _ (qr.nS c _),Ym,Y4]}
theorem Ui(h:∀y∈K,(y.toList==S.toList)=false):aG (c++K) S=aG c S:=by (unfold aG;rw[Vz,iA,List.find?_append];have b:(List.range c.length).find? (λi=>((c++K).getD i ⟨#[]⟩).toList==S.toList)=(List.range c.length).find? (λi=>(c.getD i ⟨#[]⟩).toList==S.toList):=by (have:∀(q:Vu),(∀i∈q,i<c.length)->q.find? (λi=>((c++K).getD i ⟨#[]⟩).toList==S.toList)=q.find? (λi=>(c.getD i ⟨#[]⟩).toList==S.toList):=by intro q d;induction q with|nil=>rfl|cons a q e=>grind);grind);grind
theorem Dt(h:∀y∈c,(y.toList==S.toList)=false):aG (c++K) S=(aG K S).map (c.length + ·):=by (unfold aG;rw[Vz,iA,List.find?_append];have a:(List.range c.length).find? (λi=>((c++K).getD i ⟨#[]⟩).toList==S.toList)=none:=by grind);rw[a,Option.none_or,List.find?_map];congr 1;congr 1;grind
theorem zP{α:Type}(l:Vs)(p q:Vq->Option α)(h:∀x∈l,p x=q x):l.filterMap p=l.filterMap q:=by induction l with|nil=>rfl|cons a l b=>grind
theorem AB(h:∀x∈zK,∀y∈K,(y.toList==x.toList)=false):aQ (c++K) zK=aQ c zK:=by grind [aQ,zP,Ui]
theorem yn(h:∀x∈zK,∀y∈c,(y.toList==x.toList)=false):aQ (c++K) zK=(aQ K zK).map (c.length + ·):=by unfold aQ;rw[List.map_filterMap];grind [zP,Dt]
theorem zbx(h:H<O.length):gD (O++F) H=gD O H:=by grind [gD]
theorem SB:gD (O++F) (O.length+H)=gD F H:=by grind [gD]
theorem PI(A B C:Nat->Nat->Bool)(d:∀i j,i<O.length->j<O.length->A i j=B i j)(e:∀i j,i<O.length->j<F.length->A i (O.length+j)=false)(f:∀i j,i<F.length->j<F.length->A (O.length+i) (O.length+j)=C i j):Un (O++F) A=Un O B++Un F C:=by unfold Un;rw[Vz,iA,Wn];congr 1;{(refine lq _ _ _ (λi a=>?_);have a:=VH.1 a;rw[Wf,VW];have b:(List.range O.length).filter (λj=>decide (i<j)&&A i j)=(List.range O.length).filter (λj=>decide (i<j)&&B i j):=Xt (by grind);have c:((List.range F.length).map (O.length + ·)).filter (λj=>decide (i<j)&&A i j)=[]:=by simp_all);rw[b,c,Yg,Wr];apply WB;grind [zbx]};{(rw[Za];refine lq _ _ _ (λi a=>?_);have a:=VH.1 a;rw[Wf,VW];have b:(List.range O.length).filter (λj=>decide (O.length+i<j)&&A (O.length+i) j)=[]:=by rw[Xb];grind);rw[b,Yg,WK,XX,WU];have c:(List.range F.length).filter ((λj=>decide (O.length+i<j)&&A (O.length+i) j) ∘ (O.length + ·))=(List.range F.length).filter (λj=>decide (i<j)&&C i j):=Xt (by grind);rw[c];simp[SB]}
theorem LE(h:(aQ c K).contains n=true):n<c.length:=by have⟨k,a,e⟩:=Wa (XI.1 h);have:=pT c K k a;omega
theorem GE(h:c.length<=n):(aQ c K).contains n=false:=by cases e:(aQ c K).contains n;{rfl};{have:=LE e;omega}
theorem RM:((zo.map (u + ·)).contains (u+H))=zo.contains H:=by simp
theorem Ek(h:H<u):((zo.map (u + ·)).contains H)=false:=by grind
def nT(l N:List St)(a:Nat)(W:Vs)(i j:Nat):Bool:=(List.range N.length).any (λn=>kV (l++N) a (l.length+n)&&(aQ W (symsAt N n)).contains i&&(aQ W (symsAt N n)).contains j)
theorem zaT{α β:Type}(l:List α)(f:α->β)(p:β->Bool):(l.map f).any p=l.any (λx=>p (f x)):=by grind
theorem oz(q:Nat->Bool)(h:∀x∈z7,z9 x=q x):z7.any z9=z7.any q:=by grind
theorem zl(h:∀x∈z7,z9 x=false):z7.any z9=false:=by grind
theorem QE(t:ma S I)(h:Own S w)(l:∀s∈r,qr I s.Zm)(a:Nat)(q:w.length<=a)(V W:Vs)(u:∀v∈V,sZ S v)(p:qr I W) :
  (∀i j,i<V.length->j<V.length->vW (w++r) a (V++W) (w++r).length i j=oT w V i j)/\(∀i j,i<V.length->j<W.length->vW (w++r) a (V++W) (w++r).length i (V.length+j)=false)/\(∀i j,i<W.length->j<W.length->vW (w++r) a (V++W) (w++r).length (V.length+i) (V.length+j)=nT w r a W i j):=by
 have m:∀n,n<w.length->aQ (V++W) (symsAt w n)=aQ V (symsAt w n):=λn c=>AB (λx e y k=>by
  obtain⟨b,rfl⟩:=p y k;refine Dn t x ?_ b;unfold symsAt at e;rw[Vv c]at e;exact h.syms _ (by simp) x e)
 have o:∀n,aQ (V++W) (symsAt r n)=(aQ W (symsAt r n)).map (V.length + ·):=λn=>yn (λx e y k=>by
  obtain⟨b,rfl⟩:=qr.symsAt l n x e
  grind [Dn,nm])
 (have d:∀i j,vW (w++r) a (V++W) (w++r).length i j=((List.range w.length).any (λn=>oD w n&&(aQ V (symsAt w n)).contains i&&(aQ V (symsAt w n)).contains j)||(List.range r.length).any (λn=>kV (w++r) a (w.length+n)&&((aQ W (symsAt r n)).map (V.length + ·)).contains i&&((aQ W (symsAt r n)).map (V.length + ·)).contains j)):=by intro i j;unfold vW;rw[Vz,iA,List.any_append,zaT];congr 1;{refine oz _ _ _ (λn c=>?_);have c:=VH.1 c;rw[R6 h.til n a c q,Bo w r n c,m n c]};grind [oz,uj]);refine⟨λi j f g=>?_,λi j f g=>?_,λi j f g=>?_⟩;{rw[d,zl (List.range r.length) _ (by grind),Y4];rfl};{grind [zl,GE,Ek]};(grind [zl,GE,nT,oz,RM])
def nH(l N:List St)(j0:Nat):Vu:=(List.range N.length).filter (λj=>fp (l++N) (cy (l++N) (l.length+j0)) (l.length+j0) (l.length+j))
def oP(l:List St):List Pr:=Un (oV l) (λi j=>!(i==j)&&oT l (oV l) i j)
def nP(l N:List St)(j0:Nat):List Pr:=Un (bW N (nH l N j0)) (λi j=>!(i==j)&&nT l N (l.length+j0) (bW N (nH l N j0)) i j)
theorem MA(h:∀n∈zo,n<E.length):bW (E++o) (zo++z7.map (E.length + ·))=bW E zo++bW o z7:=by grind [bW,zO,ip]
theorem zcR(g:∀s∈w,qr S s.Zm)(f:uB w)(j:Vu):qr S (bW w j):=by intro x e;unfold bW at e;have⟨n,_,a⟩:=WO.1 e;unfold ip at a;cases b:w[n]? with|none=>rw[b]at a;cases a|some s=>rw[b]at a;simp only at a;split at a;{next c => cases a;have d:=WV b;have i:=f s d c;unfold ar;rw[VK ⟨c,i⟩];refine g s d _ ?_;grind};grind
theorem zfR(h:Own S w)(e:uB w):∀v∈oV w,sZ S v:=by intro x d;unfold oV bW at d;have⟨n,_,a⟩:=WO.1 d;unfold ip at a;cases c:w[n]? with|none=>rw[c]at a;cases a|some s=>rw[c]at a;simp only at a;split at a;{next b => cases a;exact Mx h s (by grind) b (e s (by grind) b)};{cases a}
theorem Io(l:ma S I)(h:Own S w)(k:uB w)(e:∀s∈r,qr I s.Zm)(o:uB r)(a:Nat) :
  ae (w++r) (w.length+a)=pn w++(nH w r a).map (w.length + ·) /\
  bP (w++r) (w.length+a)=((pn w).map (dt w)++(nH w r a).map (dt r))++((oP w).map dJ++(nP w r a).map dJ)++[dt r a]:=by (have f:=KN l h k e a;refine⟨f,?_⟩;have d:∀n∈pn w,n<w.length:=λn g=>VH.1 (We.1 g).1;have q:bW (w++r) (ae (w++r) (w.length+a))=oV w++bW r (nH w r a):=by rw[f];exact MA w r _ _ d);(have p:bS (w++r) (w.length+a)=oP w++nP w r a:=by unfold bS;rw[q,zeM];have⟨t,u,v⟩:=QE l h e (w.length+a) (by omega) (oV w) (bW r (nH w r a)) (zfR h k) (zcR e o _);refine PI _ _ _ _ _ (λi j b c=>by rw[t i j b c]) (λi j b c=>by rw[u i j b c];simp) (λi j b c=>?_);rw[v i j b c];congr 1;congr 1;rw[Xc];simp);(have m:dt (w++r) (w.length+a)=dt r a:=by unfold dt;rw[Wl (by omega),XE]);unfold bP;rw[p,f,VW,VW,WU,m];congr 3;{exact WB (λn g=>by unfold dt;rw[Wc (d n g)])};{refine WB (λn _=>?_);simp[Function.comp];unfold dt;rw[Wl (by omega),XE]}
def stQ:St:=⟨0,⟨#[]⟩,[],[],cD,0⟩
theorem zgk(h:H<o.length):o.getD H stQ=o[H]:=by grind
theorem LJ:(List.range m.length).map (λj=>m.getD j stQ)=m:=by apply Y6;{simp};grind
theorem zgG(q:St->Bool)(d:∀j (f:j<o.length),z9 j=q o[j])(e:∀j,o.length<=j->z9 j=false):((List.range (o++m).length).filter z9).map (λj=>(o++m).getD j stQ)=o.filter q:=by (rw[Vz,iA,Wf,VW];have a:((List.range m.length).map (o.length + ·)).filter z9=[]:=by simp_all);(have b:(List.range o.length).filter z9=(List.range o.length).filter (q ∘ (λj=>o.getD j stQ)):=Xt (by grind);rw[a,Yg,Wr,b];have c:((List.range o.length).filter (q ∘ (λj=>o.getD j stQ))).map (λj=>(o++m).getD j stQ)=((List.range o.length).filter (q ∘ (λj=>o.getD j stQ))).map (λj=>o.getD j stQ):=by apply WB;grind);grind [LJ]
theorem zfB:cL (E++o) (E.length+u) (E.length+H)=match o[u]? with | some s=>decide (u<H)&&(s.til==0||decide (E.length+H<s.til)) | none=>false:=by grind [cL]
theorem zev:(E++o)[E.length+H]?=o[H]?:=by grind
theorem Tv(h:∀j s,o[j]?=some s->cL (E++o) (E.length+j) (E.length+H)=true->s.ZG=4):nH E o H=[]:=by unfold nH;rw[Xb];grind [fp,zev,cL,iU]
theorem In{N:List St}(k:ma S I)(h:Own S w)(d:uB w)(g:∀s∈N,qr I s.Zm)(f:uB N)(c:Nat)(i:∀j s,N[j]?=some s->cL (w++N) (w.length+j) (w.length+c)=true->s.ZG=4) :
  ae (w++N) (w.length+c)=pn w/\bP (w++N) (w.length+c)=(pn w).map (dt w)++(oP w).map dJ++[dt N c]:=by (have⟨a,b⟩:=Io k h d g f c;have e:=Tv w N c i;have l:nP w N c=[]:=by unfold nP Un;rw[e];rfl);grind
structure zgf(l H:List St):Prop where
 held:∀s∈H,(s.til==0||decide (l.length+H.length<s.til))=true
theorem zbO(e:ma S I)(h:Own S w)(d:uB w)(q:Pl) :
  ae (w++[⟨4,I++md [97],[I++md [113]],[],q,0⟩]) w.length=pn w/\bP (w++[⟨4,I++md [97],[I++md [113]],[],q,0⟩]) w.length=(pn w).map (dt w)++(oP w).map dJ++[nm I [97]++⟨#[32]⟩++⟨#[36,97]⟩++(⟨#[32]⟩++nm I [113])]:=by
 have:=In (N:=[⟨4,I++md [97],[I++md [113]],[],q,0⟩]) e h d (λs a=>by
  rw[VI.1 a];intro x b;have b:x∈[I++md [113]]:=b;exact⟨[113],VI.1 b⟩) (λs a c=>by rw[VI.1 a]at c;cases c) 0 (by grind)
 exact this
def bX(T:Vq):List St:=(bn T).2.ZD.map bare
theorem Ro(d:dp S):Own S (bX S)/\uB (bX S):=by have h:=Lx S d;refine⟨⟨λs a=>?_,λs a x f=>?_⟩,λs a e=>?_⟩;{obtain⟨t,b,rfl⟩:=VT.1 a;have:=h.til t b;unfold bX;rw[VX];exact this};{obtain⟨t,b,rfl⟩:=VT.1 a;exact h.syms t b x f};{obtain⟨t,b,rfl⟩:=VT.1 a;have c:=Xl e;have:=((lF S d.size).ZD t b).two c;show 2<=t.Zm.length;omega}
def hlL(T:Vq):Vs:=(pn (bX T)).map (dt (bX T))
def plL(T:Vq):Vs:=(oP (bX T)).map dJ
theorem Lo:eW (o.map bare) x H=eW o x H:=by unfold eW;rw[Wt];cases o[H]? <;> rfl
theorem zH:dg (o.map bare) x=dg o x:=by unfold dg;rw[VX,show eW (o.map bare) x=eW o x from funext (Lo o x)]
theorem Sh(c:n<w.length)(a:eW w S n=true)(b:∀m,m<n->eW w S m=false):dg w S=some n:=by unfold dg;simp_all
theorem Dj(g:dp S)(k:ma S I)(N:List St)(a:List UInt8)(m:Nat)(f:m<(bX S).length):eW (bX S++N) (nm I a) m=false:=by unfold eW;rw[Wc f,Vv f];simp only;have⟨t,j,e⟩:=VT.1 (VR f);have b:=(lF S g.size).ZD t j;cases c:iZ (bX S)[m].ZG;{simp};{(have c:iZ t.ZG=true:=by have:(bX S)[m].ZG=t.ZG:=(by rw[<-e];rfl);rwa [<-this]);(have d:2<=t.ZG/\t.ZG<=5:=b.ZG.resolve_left (by intro e;rw[e]at c;revert c;decide);have i:(bX S)[m].ZH=t.ZH:=by rw[<-e];rfl);rw[i,show(t.ZH.toList==(nm I a).toList)=((nm I a).toList==t.ZH.toList) from BEq.comm,Dn k _ (b.lab d).1.2 a];rfl}
theorem wQ:eW (E++o) x (E.length+H)=eW o x H:=by unfold eW;grind
theorem Sl(d:dp S)(g:ma S I)(N:List St)(a:List UInt8)(j:Nat)(e:j<N.length)(b:eW N (nm I a) j=true)(c:∀m,m<j->eW N (nm I a) m=false):dg (bX S++N) (nm I a)=some ((bX S).length+j):=by refine Sh (by grind) (by rwa [wQ]) (λm f=>?_);by_cases h:m<(bX S).length;{grind [Dj]};{obtain⟨q,rfl⟩:∃q,m=(bX S).length+q:=⟨m-(bX S).length,by omega⟩;grind [wQ]}
def fV(T z:Vq):Vq:=T++dA ((10,kw 99) :: Fk z)
structure zdN(U lab:Vq)(L:Vs)(n:Nat):Prop where
 find:dg (bn U).2.ZD lab=some n
 lines:bP (bn U).2.ZD n=L
def xJ(z:Vq):Vq:=nm z [97]++⟨#[32]⟩++⟨#[36,97]⟩++(⟨#[32]⟩++nm z [113])
theorem Dq(d:dp S)(e:ma S I):dU (fV S I)=false/\(bn (fV S I)).1=(0,0)/\∃n,zdN (fV S I) (nm I [97]) (hlL S++plL S++[xJ I]) n/\(ae (bn (fV S I)).2.ZD n).length=(hlL S).length:=by (have⟨i,p,f,j,k⟩:=Av S I d e;have⟨l,c⟩:=Ro d;have g:(bn (fV S I)).2.ZD.map bare=bX S++[⟨4,I++md [97],[I++md [113]],[],cD,0⟩]:=by unfold fV;rw[f];show i.ZD.map bare=_;rw[j,VW];rfl);have⟨a,b⟩:=zbO e l c cD;refine⟨k,by unfold fV;rw[f],(bX S).length,⟨?_,?_⟩,?_⟩;{rw[<-zH,g];exact Sl d e _ [97] 0 (by simp) (by unfold eW nm;simp[iZ]) (by simp)};{rw[<-Lh,g,b];rfl};grind [C4,hlL]
def dl(T z:Vq):Vs:=hlL T++plL T++[xJ z]
structure zgM(w:World)(n F g:Nat)(ao:Vt)(cap:Nat)(T z:Vq):Prop where
 c1:w.cell? (X F 1)=some (Q (some (aD g)) (dl T z).length (dl T z).length)
 c2:w.cell? (X F 2)=some (Q ao (hlL T).length cap)
 ls:gS w g (dl T z) (dl T z).length
 F:n<=F/\F<w.heap.size
 g:n<=g
 len:(dl T z).length<=200000000
structure Ipr where
 mod:Nat
 syms:Vs
 weight:List Int
 codes:Vs
 masks:List Int
 lin:Vs
def vG(c:Int)(n:Nat):Nat:=((if c<0 then -(c+1) else c).tmod n).toNat
theorem IS(h:0<H):vG z2 H<H:=by (unfold vG;have a:0<=(if z2<0 then -(z2+1) else z2):=by omega);have b:=Zd (H:Int) a;have c:=YV (if z2<0 then -(z2+1) else z2) (show(0:Int)<H by omega);omega
def uu(l:List St)(a:Nat):Vu:=(ae l a).filter (λh=>!((l.getD h aX).ZG==3))
def mn(l:List St)(a:Nat):Vu:=(ae l a).filter (λh=>(l.getD h aX).ZG==3)
theorem zbo(a:Vu):oi m a=(a.filter (λh=>!((m.getD h aX).ZG==3))).map (λh=>ar (m.getD h aX)):=by unfold oi;induction a with|nil=>rfl|cons h r b=>grind
structure FmF(l:List St)(a:Nat)(f:Fm):Prop where
 vars:f.vars=dF l a
 types:f.types=(uu l a).map (λh=>aI (l.getD h aX))
 ess:f.ess=(mn l a).map (λh=>(l.getD h aX).Zm)
 left:f.left=(bS l a).map (·.1)
 right:f.right=(bS l a).map (·.2)
 goal:f.goal=(l.getD a aX).Zm
theorem tV:dF o H=(uu o H).map (λh=>ar (o.getD h aX)):=zbo o _
theorem SA(g:Nat->Vq)(L:Vu)(i:Nat)(h:i<L.length):gD (L.map g) i=g L[i]:=by grind [gD]
theorem OJ{α β:Type}{f g:α->Option β}{L:List α}(h:∀x∈L,f x=g x):L.filterMap f=L.filterMap g:=by induction L with|nil=>rfl|cons x r a=>grind
theorem pq(A:AsO w n){p:Pr}:p∈bS w n ↔ ∃i j,i<j/\j<(dF w n).length/\dS (dF w n).length (bT w n (dF w n)) i j=true/\p=(gD (dF w n) i,gD (dF w n) j):=by (have e:bW w (ae w n)=dF w n:=by unfold bW dF oi;grind [OJ,ip,aX,jn]);unfold bS AL sQ lV;rw[e];simp[List.mem_flatMap,List.mem_range,List.mem_map,List.mem_filter,Bool.and_eq_true,decide_eq_true_eq];grind
theorem Hh(h:n<c.length):gD c n=c[n]:=by grind [gD]
section
variable {l:List St} {a:Nat} {f:Fm}
end
theorem Qv(h:D0 i)(a:i.ZG=2∨i.ZG=3)(f:Fm) :
  (cR f (aZ (fQ i))).vars=f.vars++(if(i.ZG==3)=true then [] else [ar i])/\(cR f (aZ (fQ i))).types=f.types++(if(i.ZG==3)=true then [] else [aI i])/\(cR f (aZ (fQ i))).ess=f.ess++(if(i.ZG==3)=true then [i.Zm] else [])/\(cR f (aZ (fQ i))).left=f.left/\(cR f (aZ (fQ i))).right=f.right:=by rw[h.split];have d:=tP i.ZH (ii i.ZG :: i.Zm) h.lab;rcases a with a | a;{(have e:=h.two a;have b:jQ (i.ZH :: ii i.ZG :: i.Zm) 102=true:=by rw[kF,a,EZ,Ga];rfl);(have c:(i.ZG==3)=false:=by rw[a];rfl);(unfold cR;rw[VL (by rw[d];simp),VK ⟨b,by simp[e]⟩,c];have v:ar i=i.Zm.getD 1 ⟨#[]⟩:=by unfold ar;rw[VK ⟨by rw[a];rfl,by omega⟩]);rw[v];simp only[Bool.false_eq_true,if_false,List.append_nil];exact⟨rfl,rfl,trivial,trivial,trivial⟩};{(have b:jQ (i.ZH :: ii i.ZG :: i.Zm) 102=false:=by rw[kF,a,wO,Ga];decide);(have g:jQ (i.ZH :: ii i.ZG :: i.Zm) 101=true:=by rw[kF,a,wO,Ga];rfl);(have c:(i.ZG==3)=true:=by rw[a];rfl);unfold cR;rw[VL (by rw[d];simp),VL (by rw[b];simp),VK g,c];simp only[if_true,List.append_nil];exact⟨trivial,trivial,rfl,trivial,trivial⟩}
theorem Mk(a:iu z0.1)(b:iu z0.2)(f:Fm):cR f (aZ (dJ z0))={ f with left:=f.left++[z0.1],right:=f.right++[z0.2] }:=by rw[tZ z0 a b];unfold cR;rw[VK (zZ _)];rfl
theorem xe(h:D0 i)(c:iZ i.ZG=true)(f:Fm):cR f (aZ (fQ i))={ f with goal:=i.Zm }:=by (rw[h.split];have d:=tP i.ZH (ii i.ZG :: i.Zm) h.lab;have a:i.ZG=4∨i.ZG=5:=by unfold iZ at c;simpa using c);(have g:jQ (i.ZH :: ii i.ZG :: i.Zm) 102=false:=by (rw[kF];rcases a with e | e <;> rw[e]);{rw[Ab,Ga];decide};{rw[Ac,Ga];decide});(have j:jQ (i.ZH :: ii i.ZG :: i.Zm) 101=false:=by (rw[kF];rcases a with e | e <;> rw[e]);{rw[Ab,Ga];decide};{rw[Ac,Ga];decide});unfold cR;rw[VL (by rw[d];simp),VL (by rw[g];simp),VL (by rw[j];simp)];rfl
theorem zQ(a:Vu)(h:∀n∈a,∃h:n<m.length,D0 m[n]/\(m[n].ZG=2∨m[n].ZG=3)):∀(f:Fm) (g:Fm),g=((a.map (dt m)).foldl (λf x=>cR f (aZ x)) f) ->
  g.vars=f.vars++(a.filter (λh=>!((m.getD h aX).ZG==3))).map (λh=>ar (m.getD h aX))/\g.types=f.types++(a.filter (λh=>!((m.getD h aX).ZG==3))).map (λh=>aI (m.getD h aX))/\g.ess=f.ess++(a.filter (λh=>(m.getD h aX).ZG==3)).map (λh=>(m.getD h aX).Zm)/\g.left=f.left/\g.right=f.right:=by induction a with|nil=>rintro f g rfl;simp|cons n a r=>{(rintro f g rfl;obtain⟨b,d,j⟩:=h n (by simp);have e:dt m n=fQ m[n]:=by unfold dt;rw[Vv b]);(have i:m.getD n aX=m[n]:=by rw[Vy,Vv b];rfl);simp only[List.map_cons,List.foldl_cons];obtain⟨k,l,o,p,q⟩:=r (λn b=>h n (Yb _ b)) (cR f (aZ (dt m n))) _ rfl;obtain⟨s,t,u,v,w⟩:=Qv d j f;rw[k,l,o,p,q,e,s,t,u,v,w];simp only[List.filter_cons,i];cases c:(m[n].ZG==3) with|true=>simp[b]|false=>simp[b]}
theorem qR(a:List Pr)(h:∀p∈a,iu p.1/\iu p.2):∀f:Fm,(a.map dJ).foldl (λf x=>cR f (aZ x)) f={ f with left:=f.left++a.map (·.1),right:=f.right++a.map (·.2) }:=by induction a with|nil=>intro f;simp|cons p a d=>intro f;have b:=h p (by simp);simp only[List.map_cons,List.foldl_cons];rw[Mk p b.1 b.2,d (λq c=>h q (Yb _ c))];simp
theorem Ha(h:pF w n):FmF w n (dQ (bP w n)):=by (have a:dt w n=fQ (w[n]'h.ha):=by unfold dt;rw[Vv h.ha]);(have b:w.getD n aX=w[n]'h.ha:=by rw[Vy,Vv h.ha];rfl);(obtain⟨d,g,i,j,k⟩:=zQ w (ae w n) h.hyp Ch _ rfl;have e:dQ (bP w n)={ (((ae w n).map (dt w)).foldl (λf x=>cR f (aZ x)) Ch) with left:=(((ae w n).map (dt w)).foldl (λf x=>cR f (aZ x)) Ch).left++(bS w n).map (·.1),right:=(((ae w n).map (dt w)).foldl (λf x=>cR f (aZ x)) Ch).right++(bS w n).map (·.2),goal:=(w[n]'h.ha).Zm }:=by unfold dQ iF;rw[Wx];unfold bP;rw[WQ,WQ];simp only[List.foldl_cons,List.foldl_nil,a];rw[qR _ (λp c=>(h.prs p c).1),xe h.ZP h.isa]);rw[e];refine⟨?_,?_,?_,?_,?_,by rw[b]⟩;{(show(((ae w n).map (dt w)).foldl (λf x=>cR f (aZ x)) Ch).vars=_);rw[d,tV];rfl};{(show(((ae w n).map (dt w)).foldl (λf x=>cR f (aZ x)) Ch).types=_);rw[g];rfl};{(show(((ae w n).map (dt w)).foldl (λf x=>cR f (aZ x)) Ch).ess=_);rw[i];rfl};{(show(((ae w n).map (dt w)).foldl (λf x=>cR f (aZ x)) Ch).left++_=_);rw[j];rfl};{(show(((ae w n).map (dt w)).foldl (λf x=>cR f (aZ x)) Ch).right++_=_);rw[k];rfl}
def ixS(l:List St)(k:Nat):Nat:=((List.range k).filter (λn=>!((bF l n).Zs==0))).length
theorem UK:jS m=((List.range m.length).filter (λn=>!((bF m n).Zs==0))).map (bF m):=by unfold jS;rw[sF,XX];rfl
theorem zbk:∀k,k<H->zc k=true->((List.range H).filter zc)[((List.range k).filter zc).length]?=some k:=by intro k b a;obtain⟨m,rfl⟩:∃m,H=k+1+m:=⟨H-(k+1),by omega⟩;rw[Yx,Wf,Wi,Wf,Ws,Wl (Vw _),XN];simp[a]
theorem zbl(h:((List.range A).filter zc)[u]?=some H):H<A/\zc H=true/\u=((List.range H).filter zc).length:=by have a:=We.1 (WV h);have c:=VH.1 a.1;refine⟨c,a.2,?_⟩;have b:((List.range A).filter zc).Nodup:=List.nodup_range.filter _;have⟨f,d⟩:=VV.1 h;have⟨g,e⟩:=VV.1 (zbk zc A H c a.2);exact(List.getElem_inj b).1 (d.trans e.symm)
theorem zb5{l:List St}{k:Nat}(h:((bF l k).Zs==0)=false):∃s,l[k]?=some s/\iZ s.ZG=true/\(bF l k).ZH=s.ZH:=by unfold bF ik at h ⊢;cases a:l[k]? with|none=>rw[a]at h;cases h|some s=>rw[a]at h;simp only at h ⊢;by_cases d:s.ZG=4;{grind [iZ]};{have b:(s.ZG==4)=false:=(by grind);by_cases e:s.ZG=5;{grind [iZ,cY,i9]};{have c:(s.ZG==5)=false:=(by grind);rw[b,c]at h;cases h}}
theorem yL(g:Gg w)(d:w[n]?=some i)(f:w[G]?=some z5)(a:iZ i.ZG=true)(b:iZ z5.ZG=true)(e:i.ZH=z5.ZH):n=G:=by (have j:i.ZG≠1:=λc=>by rw[c]at a;cases a);(have k:z5.ZG≠1:=λc=>by rw[c]at b;cases b);rcases Y1 n G with c | c | c;{have:=g n G i z5 c d f j k;grind};{exact c};{have:=g G n z5 i c f d k j;grind}
theorem uT(c:Gg w)(h:w[n]?=some i)(b:iZ i.ZG=true):dg w i.ZH=some n:=by cases a:dg w i.ZH with|none=>unfold dg at a;have:=XT.1 a n (VH.2 ((VV.1 h).1));exact absurd (by unfold eW;rw[h];simp[b]) this|some m=>grind [dg,eW,yL,fJ]
structure SpR(T:Vq)(i k:Nat)(r:Rw):Prop where
 find:dg (bn T).2.ZD r.ZH=some k
 fr:pF (bn T).2.ZD k
 ZP:((bn T).2.ZD[k]'fr.ha).ZH.toList=r.ZH.toList
 at_:dK (bn T).2.ZD k=true
 ver:(bF (bn T).2.ZD k).Zs=r.Zs
 ix:i=ixS (bn T).2.ZD k
theorem zfx(a:dp x)(h:(bn x).2.ZD[n]?=some i)(b:iZ i.ZG=true):pF (bn x).2.ZD n:=by obtain⟨c,rfl⟩:=VV.1 h;exact pF.of (jf x a.size) (jg x a.size a.inc).ok n c b
theorem Mg(b:dp x){r:Rw}(h:(bi x)[n]?=some r):∃k,SpR x n k r:=by have j:=(AQ x).diff;unfold bi at h;rw[UK,Wt]at h;cases a:((List.range (bn x).2.ZD.length).filter (λi=>!((bF (bn x).2.ZD i).Zs==0)))[n]? with|none=>grind|some k=>(rw[a]at h;have h:=Wy h;have⟨o,f,g⟩:=zbl _ _ _ _ a;have⟨s,d,c,m⟩:=zb5 (l:=(bn x).2.ZD) (k:=k) (by simpa using f);have e:r.ZH=s.ZH:=by grind);refine⟨k,by grind [uT],zfx x b d c,?_,by grind [dK],by grind,g⟩;grind
def TlA(d:Db):Prop:=∀s∈d.ZD,iZ s.ZG=true->s.til=0
theorem TlA.take(h:TlA D)(x:Vq)(p:Pl):TlA (aV D x p).2:=by intro s c b;rcases rJ D x p with e | ⟨y,-,e⟩ | ⟨e,-⟩;{rw[e]at c;exact h s c b};{rw[e]at c;have⟨i,a⟩:=List.mem_iff_getElem?.1 c;rw[iE]at a;cases f:D.ZD[i]? with|none=>grind|some u=>rw[f]at a;replace a:(if y<=i/\i<D.ZD.length then fP D.ZD.length u else u)=s:=Wy a;have d:=WV f;by_cases q:y<=i/\i<D.ZD.length;{rw[VK q]at a;unfold fP at a;split at a;{grind};{rw[<-a]at b ⊢;exact h u d b}};{rw[VL q]at a;rw[<-a]at b ⊢;exact h u d b}};{rw[e]at c;rcases VJ.1 c with q | q;{exact h s q b};grind}
theorem LQ(f:Nat):∀k d,TlA d->TlA (dC t x f k d).2:=by induction f with|zero=>intro k d h;exact h|succ f a=>intro k d h;rw[dC];split;{split;{exact a _ _ (h.take _ _)};{exact h.take _ _}};{split;{split <;> exact h};{exact h}}
theorem NK:TlA (bn x).2:=LQ _ x _ 0 _ (λs a=>by cases a)
def fC(l:List St)(k:Nat):Vs:=(uu l k).map (λh=>aI (l.getD h aX))
structure DvX(T z:Vq)(k:Nat)(L:List St)(g ws:Vs):Prop where
 fine:dp T
 zed:ma T z
 at_:dK (bn T).2.ZD k=true
 new:zgv (bn T).2.ZD L z (fC (bn T).2.ZD k) g ws
section
variable {T z:Vq} {k:Nat} {L:List St} {g ws:Vs}
abbrev aS (T:ByteArray) (k:Nat):Nat:=(bn T).2.ZD.length+(fC (bn T).2.ZD k).length
theorem zew(h:∀s,w[G]?=some s->s.ZG≠1->(s.ZH.toList==S.toList)=false):kI w S n G=false:=by grind [kI]
theorem ij(k:Nat):(dF m k).length=(fC m k).length:=by grind [tV,fC]
theorem uW(h:n<w.length):w.getD n aX=w[n]:=by grind
theorem lZ(h:n<w.length):cN w n=w.getD n aX:=by rfl
theorem zga{k:Nat}(a:n<(uu w k).length):gD (fC w k) n=aI (w.getD (uu w k)[n] aX):=by grind [gD,fC]
theorem So{k:Nat}(a:n∈uu w k):n∈ae w k/\n<w.length/\(w.getD n aX).ZG=2:=by have⟨b,c⟩:=We.1 a;grind [jn,sO]
theorem tR(h:nC w n=true):bS w n=[]/\∀h∈ae w n,(cN w h).ZG=2:=by grind [nC]
end
theorem Ls{ZK:Pl}{nu:Vq->Nat}(b:List (Vq×Pl)):∀a:List fy,(∀x∈b,eA w x.1 n=some (nu x.1)/\(x.1.toList == [63])=false)->0<a.length+b.length->dB w n ZK b a=(a++b.map (λx=>⟨2,nu x.1,x.2⟩),cV):=by induction b with|nil=>grind [dB]|cons x r f=>have⟨t,p⟩:=x;intro a e _;have⟨c,d⟩:=e (t,p) (by simp);simp only at c d;rw[dB,VL (by grind),c];simp only;rw[f _ (by grind) (by grind)];simp
theorem GX{α:Type}(p:α->Bool)(L:List α)(q:Nat)(x:α)(h:L[q]?=some x)(a:p x=true):(L.filter p)[((L.take q).filter p).length]?=some x:=by (have e:L=L.take q++x :: L.drop (q+1):=by have:=(VV.1 h).2;rw[<-this,<-Wg ((VV.1 h).1),XJ]);grind
theorem Iz{α:Type}{L:List α}(h:L.Nodup){x:α}(a:L[n]?=some x)(b:L[G]?=some x):n=G:=by have c:=(VV.1 a);have d:=(VV.1 b);have e:=YX.1 h;grind
def flN(l:List St)(k q:Nat):Nat:=(((ae l k).take q).filter (λh=>!((l.getD h aX).ZG==3))).length
def FX(l:List St)(k q:Nat):Nat:=(((ae l k).take q).filter (λh=>(l.getD h aX).ZG==3)).length
section
variable {T z:Vq} {k:Nat}
theorem tO:(ae o H).Nodup:=(tN o H).imp (Nat.ne_of_lt)
theorem Uq{P:dV}(b:P∈dR w k):(∃i,∃f:i<(uu w k).length,P=lfP (cN w (uu w k)[i]))∨∃m,m<k/\(cN w m).ZG=4/\nC w m=true/\P=gC w m:=by rcases VJ.1 b with q | q;{(obtain⟨h,d,rfl⟩:=VT.1 q;obtain⟨a,g⟩:=We.1 d;have c:h∈uu w k:=by refine We.2 ⟨a,?_⟩;grind [lZ,uZ]);have⟨i,f,e⟩:=Wa c;grind};grind
theorem QG{C:or}(r:Nat):∀a i j,∀x∈wm c y2 C r a i j,∃P∈y2,x=P.ZH:=by induction r with|zero=>intro a i j x b;cases b|succ r d=>grind [Ul,wm,pY]
variable {L:List St} {g ws:Vs}
def fA(L:List St)(a:Nat)(w:Vq):Nat:=(eA L w a).getD 0
theorem C9(h:dZ S=true):(S.toList == [40])=false/\(S.toList == [63])=false:=by refine⟨?_,?_⟩;{cases q:(S.toList == [40]);{rfl};{have e:S=⟨#[40]⟩:=fJ (by simp_all);rw[e]at h;exact absurd h (by decide +kernel)}};{cases q:(S.toList == [63]);{rfl};{have e:S=⟨#[63]⟩:=fJ (by simp_all);rw[e]at h;exact absurd h (by decide +kernel)}}
theorem OY{M:List St}(h:n<w.length):nC (w++M) n=nC w n/\gC (w++M) n=gC w n/\cN (w++M) n=cN w n:=by (have d:∀a,a<w.length->cN (w++M) a=cN w a:=by grind [cN]);have e:=oQ w M n h;have b:∀x∈ae w n,x<w.length:=λx c=>(uZ c).1;refine⟨?_,?_,d n h⟩;{unfold nC;grind [bS,bW,ae,zO,ip,tT]};{unfold gC;simp_all}
end
end Go.Proofs.YtnbalopedcgpcaaGreat

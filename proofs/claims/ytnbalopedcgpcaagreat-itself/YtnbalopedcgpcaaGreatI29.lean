import Derived.Test.YtnbalopedcgpcaaGreatI22
import Derived.Test.YtnbalopedcgpcaaGreatI27
namespace Go.Proofs.YtnbalopedcgpcaaGreat
open Go.RowKit Tryz
open Value IntKind Ending
set_option linter.all false
set_option maxHeartbeats 0
variable{z8:List UInt8}{K:ie}{w v:Nat}{b O:Vq}{D z2:Vs}{zn:Db}{H:List Q}{E:Q}{z3:Vu}{z4:eB}{z5:List eB}{R:List Rw}(ze u:Vq)(M:UInt8)(z6:Vs)(G:List Q)(z1:Vq)(z9:List UInt8)(m:Vs)(o:Vq)(X:List Vs)(I:Vs)(y:Vq)(V:ie)(N:Nat)(z0:Pl)(zc:ie)(P:Vq×Bool)(z7 W:List UInt8)(F:List (List UInt8))(zg:List (UInt8×Vq))
def fZ(s:eB):eB:={ s with at_:=cQ }
def pK(c:ie):ie:={ c with steps:=c.steps.map fZ }
theorem Tu:pK (eZ V N)=eZ (pK V) N:=by grind [eZ,pK]
theorem Tv:(eX V N z0).1=(eX (pK V) N cQ).1/\pK (eX V N z0).2=(eX (pK V) N cQ).2:=by grind [pK,eX,dW,fZ]
theorem KR:(aY V N z0).1=(aY (pK V) N cQ).1/\pK (aY V N z0).2=(aY (pK V) N cQ).2:=by grind [pK,aY,Tv,Tu,dW,fZ]
def xj:List UInt8->ie->Option ie
 | [],c=>some c
 | b :: r,c=>if((aY c b.toNat cQ).1==0)=true then xj r (aY c b.toNat cQ).2 else none
theorem UA(a b:List UInt8)(c:ie):xj (a++b) c=(xj a c).bind (xj b):=by induction a generalizing c with|nil=>rfl|cons x a d=>grind [xj]
theorem BK{b:List UInt8}{d e:ie}(a:xj z8 K=some d)(c:xj b d=some e):xj (z8++b) K=some e:=by grind [UA]
theorem zbn(f:Nat):∀(j:Nat) (c:ie),y.size-j<f->j<=y.size->xj (y.data.toList.drop j) (pK c)=some zc->(d9 y z0 f j c).1=cD/\pK (d9 y z0 f j c).2=zc:=by induction f with|zero=>simp|succ f i=>(intro j c e g h;have b:y.data.toList.length=y.size:=by rfl);by_cases a:j<y.size;{(have d:zeb y j=((y.data.toList[j]'(by omega)).toNat:Int):=by rw[aR y j a];rfl);rw[Wj (by omega:j<y.data.toList.length),xj]at h;grind [KR,zeb,Sf]};{rw[Kn y z0 f j c a];rw[WO (by omega)]at h;exact⟨rfl,Wb h⟩}
theorem zad{t:Vq}{p:Pl}{c:ie}(h:xj t.data.toList (pK c)=some K):(hQ t p c).1=cD/\pK (hQ t p c).2=K :=
 zbn t p K _ 0 c (by omega) (WD _) (by simpa using h)
theorem QU(h:(aY zc M.toNat cQ).1=0):xj [M] zc=some (aY zc M.toNat cQ).2:=by rw[xj,h];rfl
def Dh(c:ie)(n:Nat):eB:=if n<=c.Z7.length then⟨2,c.Z7.getD (n-1) 0,cQ⟩ else⟨3,c.ZV.getD (n-1-c.Z7.length) 0,cQ⟩
theorem Ts(c:1<=w)(b:K.ZP*20+v=w)(d:w<=K.Z7.length+K.ZV.length):eX K v cQ=(0,{ K with steps:=K.steps++[Dh K w],behind:=true,ZP:=0 }):=by unfold eX Dh;rw[b];by_cases h:w<=K.Z7.length;{rw[VQ (by omega),VQ h];rfl};{rw[VI (by omega),VQ (by omega),VI h];rfl}
theorem Ct(h:N<256):(UInt8.ofNat N).toNat=N:=by simp_all
theorem zbK{c:ie}(q:1<=w)(r:w<=120)(s:c.ZP=0)(t:w<=c.Z7.length+c.ZV.length):xj (jY w).data.toList c=some { c with steps:=c.steps++[Dh c w],behind:=true }:=by (have p:(65+((w:Int)-1) % 20).toNat=65+(w-1) % 20:=by omega);(have g:∀b:ie,b.ZP*20+((w-1) % 20+1)=w->b.Z7=c.Z7->b.ZV=c.ZV->b.steps=c.steps->xj (sG (65+((w:Int)-1) % 20)).data.toList b=some { c with steps:=c.steps++[Dh c w],behind:=true }:=by (intro b j k l m;have i:(UInt8.ofNat (65+((w:Int)-1) % 20).toNat).toNat=65+(w-1) % 20:=by grind [Ct]);(have f:aY b (UInt8.ofNat (65+((w:Int)-1) % 20).toNat).toNat cQ=(0,{ b with steps:=b.steps++[Dh b w],behind:=true,ZP:=0 }):=by grind [aY,Ts]);(have:=QU (UInt8.ofNat (65+((w:Int)-1) % 20).toNat) b (by rw[f]);rw[f]at this;have n:Dh b w=Dh c w:=by unfold Dh;grind);show xj [_] b=_;grind);unfold jY;by_cases e:20<w;{(rw[VQ e,VY,WF];have o:(85+((w:Int)-21) / 20).toNat=85+(w-21) / 20:=by omega);(have i:(UInt8.ofNat (85+((w:Int)-21) / 20).toNat).toNat=85+(w-21) / 20:=by grind [Ct]);(have f:aY c (UInt8.ofNat (85+((w:Int)-21) / 20).toNat).toNat cQ=(0,{ c with behind:=false,ZP:=(w-21) / 20+1 }):=by grind [aY,eZ]);grind [QU,BK,sG]};grind
def uV(ws:Vs):List (UInt8×Vq):=ws.map (λx=>(32,x))
def pS(L:List (UInt8×Vq)):List UInt8:=L.flatMap (λy=>y.1 :: y.2.data.toList)
theorem j7(b:List (UInt8×Vq)):pS (zg++b)=pS zg++pS b:=WK
theorem DK:uV (m++I)=uV m++uV I:=VU
theorem rt:(uV I).map (·.2)=I:=by unfold uV;rw[Wr];exact Zv I
theorem E6:pS ((M,y) :: zg)=M :: y.data.toList++pS zg:=rfl
theorem IB:pS (uV I)=I.flatMap (λx=>32 :: x.data.toList):=by unfold pS uV;rw[X7]
theorem qP:Cf u ⟨#[M]⟩ N=nm u (dJ M N):=iO (by simp[Cf,nm,dJ,lL,ByteArray.data_append,ByteArray.toList_eq])
theorem Jc:Sy u ⟨#[M]⟩ N=nm u (lR M N):=iO (by simp[Sy,nm,lR,lL,ByteArray.data_append,ByteArray.toList_eq])
theorem zee:Fj u ⟨#[M]⟩ N=nm u (mP M N):=iO (by simp[Fj,nm,mP,lL,ByteArray.data_append,ByteArray.toList_eq])
def tM(ts:Vs)(sk:Vq)(k:Nat):Vu:=(List.range k).filter (λi=>!((gD ts i).toList==sk.toList))
theorem Pm(k:Nat):(EL u ⟨#[M]⟩ o I y k).data.toList=y.data.toList++pS (uV ((tM I o k).flatMap (xR u M I))):=by induction k with|zero=>simp[EL,tM,uV,pS]|succ k a=>unfold tM at *;rw[WG,WB,WK,DK,j7,<-Wg,<-a,EL];cases b:((gD I k).toList==o.toList);{rw[VI (by simp),qP,Jc];rw[Xv (by grind),Yk,Xc];simp[xR,uV,pS,kw]};grind [uV,pS]
theorem za2(k:Nat):vJ u ⟨#[M]⟩ z1 m I k=I++(tM m z1 k).map (λi=>nm u (lR M i)):=by induction k with|zero=>simp[vJ,tM]|succ k a=>unfold tM at *;rw[WG,WB,VU,<-Wg,<-a,vJ];grind [gD,Jc]
def Hu(z:Vq)(ds:List (List UInt8×List UInt8)):List UInt8:=pS (uV (ds.flatMap (Ms z)))
theorem KM(a b:List (List UInt8×List UInt8)):Hu y (a++b)=Hu y a++Hu y b:=by grind [Hu,DK,j7]
theorem KN(p:List UInt8×List UInt8)(s:Vq):(s++⟨#[32,36,100,32]⟩++nm y p.1++⟨#[32]⟩++nm y p.2++⟨#[32,36,46]⟩).data.toList=s.data.toList++Hu y [p]:=by simp[Hu,Ms,uV,pS,kw]
def Pw(z:Vq)(es:List (List UInt8×Vs)):List UInt8:=pS (uV (es.flatMap (As z)))
theorem PV(k:Nat)(h:∀i,i<k->0<(dS z6 m (X.getD i [])).length):(hyT u ⟨#[M]⟩ z6 m X y k).data.toList=y.data.toList++Pw u ((List.range k).map (λi=>(mP M i,dS z6 m (X.getD i [])))):=by induction k with|zero=>simp[hyT,Pw,uV,pS]|succ k a=>unfold Pw at *;rw[WG,VU,WK,DK,j7,<-Wg,<-a (by grind),hyT,zee];rw[Xk,Xc];unfold As;rw[IB,Wf,Wf,WK,<-oG (dS z6 m (X.getD k [])) (h k (by omega))];simp[kw]
def SD(z:Vq)(s:List UInt8)(g ws:Vs):List (UInt8×Vq):=(10,nm z s) :: uV (kw 112 :: (g++kw 61 :: (ws++[kw 46])))
theorem RY(a:0<m.length)(b:(32:UInt8) :: y.data.toList=I.flatMap (λx=>32 :: x.data.toList)):(Ce ze u ⟨#[M]⟩ (bV m) y).data.toList=ze.data.toList++pS (SD u [M] m I):=by unfold SD Ce;rw[E6,IB];simp[List.flatMap_cons,List.flatMap_append,List.flatMap_nil,<-(oG m a),<-b];simp[kw,nm,lL]
theorem Of:(SD z1 z9 m I).map (·.2)=thW z1 z9 m I:=by grind [SD,thW,rt]
theorem zbC(g:lI b O)(e:fQ z8=true)(d:∀x∈D,Wd x)(f:∀x∈z2,Wd x):∀y∈SD O z8 D z2,(y.1=10∨y.1=32)/\Al y.2:=by intro y c;unfold SD uV at c;simp[List.map_cons,List.map_append,List.mem_cons,List.mem_append,List.mem_map,List.map_nil,List.not_mem_nil,or_false]at c;rcases c with rfl | rfl | ⟨x,a,rfl⟩ | rfl | ⟨x,a,rfl⟩ | rfl;{exact⟨VR rfl,VR (gx g _ e).1⟩};{grind [jN]};{exact⟨VH rfl,VR (d x a)⟩};{grind [jN]};{exact⟨VH rfl,VR (f x a)⟩};grind [jN]
theorem Pz{a:List (List UInt8)}(e:lI b O)(h:Cl zn O a D):∀x∈D,Wd x:=by obtain⟨t,f,rfl,c,-,d⟩:=h;grind [J1]
def jC(l:List Q)(kg:Nat):Vq:=bH (l.getD kg bu)
def isG(l:List Q)(kf kg i:Nat):Bool:=(gD (bm l kf) i).toList==(jC l kg).toList
def gvS(z:Vq)(l:List Q)(kg:Nat)(x:Vq):Vs:=match aU (cU l kg) x with
 | none=>[x]
 | some i=>[nm z (dJ 121 i)]
def inJ(z:Vq)(l:List Q)(kg:Nat):Vs:=(l.getD kg bu).ZI.flatMap (gvS z l kg)
def fvS(z:Vq)(l:List Q)(kf kg:Nat)(x:Vq):Vs:=match aU (cU l kf) x with
 | none=>[x]
 | some i=>if isG l kf kg i=true then(inJ z l kg).drop 1 else [nm z (dJ 120 i)]
def goJ(z:Vq)(l:List Q)(kf kg:Nat):Vs:=(l.getD kf bu).ZI.flatMap (fvS z l kf kg)
def Ei(l:List Q)(k i:Nat):Vs:=(l.getD ((fJ l k).getD i 0) bu).ZI
def esG(z:Vq)(l:List Q)(kg:Nat):List (List UInt8×Vs):=(List.range (fJ l kg).length).map (λi=>(mP 121 i,(Ei l kg i).flatMap (gvS z l kg)))
def esF(z:Vq)(l:List Q)(kf kg:Nat):List (List UInt8×Vs):=(List.range (fJ l kf).length).map (λi=>(mP 120 i,(Ei l kf i).flatMap (fvS z l kf kg)))
def frS(l:List Q)(kf kg x:Nat):List (List UInt8):=if isG l kf kg x=true then((List.range (bm l kg).length).filter (λj=>(aU (l.getD kg bu).ZI (gD (cU l kg) j)).isSome)).map (dJ 121) else [dJ 120 x]
def zdv(l:List Q)(kf kg:Nat)(p:Pr):List (List UInt8×List UInt8):=match aU (cU l kf) p.1,aU (cU l kf) p.2 with
 | some x,some y=>(frS l kf kg x).flatMap (λu=>(frS l kf kg y).map (λv=>(u,v)))
 | _,_=>[]
def crJ(l:List Q)(kf kg:Nat):List (List UInt8×List UInt8):=(bB l kf).flatMap (zdv l kf kg)
def dgO(l:List Q)(kg:Nat)(p:Pr):List (List UInt8×List UInt8):=match aU (cU l kg) p.1,aU (cU l kg) p.2 with
 | some x,some y=>[(dJ 121 x,dJ 121 y)]
 | _,_=>[]
def dgJ(l:List Q)(kg:Nat):List (List UInt8×List UInt8):=(bB l kg).flatMap (dgO l kg)
def dsJ(l:List Q)(kf kg:Nat):List (List UInt8×List UInt8):=dgJ l kg++(crJ l kf kg).filter (λp=>!(p.1==p.2))
def xsJ(l:List Q)(kf kg:Nat):Vu:=tM (bm l kf) (jC l kg) (bm l kf).length
def jbJ(z:Vq)(l:List Q)(kf kg:Nat)(w1 w2:Vs)(tw:Bool):Jb:=⟨bm l kf,bm l kg,xsJ l kf kg,dsJ l kf kg,esG z l kg++esF z l kf kg,goJ z l kf kg,w1,w2,tw⟩
theorem iW{us:Vs}{x:Vq}(h:x∈us):∃i,i<us.length/\aU us x=some i:=by cases a:aU us x with|none=>grind [dR]|some i=>exact⟨i,kT a,rfl⟩
section
variable {T z:Vq} {kf kg:Nat}
theorem R4(a:dE T)(k:Nat):(bm (bz T).2.ZZ k).length<4200/\(fJ (bz T).2.ZZ k).length<4200/\(ae (bz T).2.ZZ k).length<4200:=by have b:=LF T a.size a.inc;grind [qi,bz,Hw,ae,fJ,bm]
theorem xr(g:dE T)(a:gM (bz T).2.ZZ w=true):∃r,((bz T).2.ZZ.getD w bu).ZI=jC (bz T).2.ZZ w :: r/\OU (jC (bz T).2.ZZ w)/\bi (bz T).2.ZK (jC (bz T).2.ZZ w)=true/\∀i,jC (bz T).2.ZZ w∉cU (bz T).2.ZZ i:=by have N:=ft T g.size;have V:=oX T;have A:=KE N V a;unfold gM at a;cases b:(bz T).2.ZZ[w]? with|none=>grind|some s=>{(rw[b]at a;have a:gX s.Z3=true:=a;have k:s.Z3=4∨s.Z3=5:=by grind [gX]);have⟨j,f⟩:=Cv g b (by omega);unfold jC;rw[lZ b];refine⟨s.ZI.drop 1,?_,j,f,λi l=>V.cv _ ((gH ..).1 f) (zf N V l)⟩;have d:=A.ne;rw[lZ b]at d;cases e:s.ZI with|nil=>grind|cons c r=>unfold bH;rw[e];rfl}
theorem CD(a:v<(fJ H w).length):(fJ H w).getD v 0∈ae H w/\((H.getD ((fJ H w).getD v 0) bu).Z3==3)=true/\(fJ H w).getD v 0<H.length:=by (have e:(fJ H w).getD v 0=(fJ H w)[v]:=by grind);rw[e];have h:=WC.1 (VZ a);grind [PZ]
theorem CF(d:dE T)(l:v<(fJ (bz T).2.ZZ w).length):∃t r,Ei (bz T).2.ZZ w v=t :: r/\OU t/\bi (bz T).2.ZK t=true/\(∀f,t∉cU (bz T).2.ZZ f)/\∀x∈Ei (bz T).2.ZZ w v,InF (bz T).2.ZZ w x:=by (have N:=ft T d.size;have V:=oX T;have⟨j,k,p⟩:=CD l;have e:(bz T).2.ZZ[(fJ (bz T).2.ZZ w).getD v 0]?=some ((bz T).2.ZZ.getD ((fJ (bz T).2.ZZ w).getD v 0) bu):=by grind);(have q:=W0 k;have⟨b,a⟩:=Cv d e (by omega);have⟨c,r,g,o⟩:=(N.ZZ _ (WE e)).code (by omega);have i:bH ((bz T).2.ZZ.getD ((fJ (bz T).2.ZZ w).getD v 0) bu)=c:=by grind [bH]);rw[i]at b a;exact⟨c,r,g,b,a,λf m=>V.cv _ ((gH ..).1 a) (zf N V m),λx n=>VH ⟨_,j,n⟩⟩
theorem P7(d:dE T)(c:gM (bz T).2.ZZ w=true)(f:InF (bz T).2.ZZ w b):(OU b/\bi (bz T).2.ZK b=true/\∀a,b∉cU (bz T).2.ZZ a)∨∃i,i<(bm (bz T).2.ZZ w).length/\aU (cU (bz T).2.ZZ w) b=some i:=by have N:=ft T d.size;have V:=oX T;rcases zco N V c f with q | q;{exact VR ⟨N.con b q,(gH ..).2 q,λa e=>V.cv _ q (zf N V e)⟩};grind [iW,jL]
variable {w1 w2:Vs} {tw:Bool}
end
structure JnX(T z U:Vq)(l L:List Q)(kf kg:Nat)(w1 w2:Vs)(tw:Bool):Prop where
 fine:dE T
 zed:lI T z
 finU:dE U
 el:l=(bz T).2.ZZ
 eL:L=(bz U).2.ZZ
 af:gM l kf=true
 ag:gM l kg=true
 hit:∃i,i<(bm l kf).length/\isG l kf kg i=true
 ok:zdm (bz T).2 z (jbJ z l kf kg w1 w2 tw)
 new:zdo l L z (jbJ z l kf kg w1 w2 tw)
section
variable {T z U:Vq} {l L:List Q} {kf kg:Nat} {w1 w2:Vs} {tw:Bool}
theorem JnX.nm(X:JnX T z U l L kf kg w1 w2 tw):Nm (Eh T) (bz T).2:=kU T X.fine.size
theorem JnX.varO(X:JnX T z U l L kf kg w1 w2 tw)(d:l[w]?=some E)(b:E.Z3=2):rD T (az E)/\az E∉(bz T).2.ZK:=by have a:=d;rw[X.el]at a;have V:=oX T;refine⟨DT (Ds T X.fine) E (by grind) (by grind) (by rw[(X.nm.ZZ E (by grind)).two b];simp),λc=>V.cv _ c (ID X.nm V a b)⟩
theorem zaY{l:List Q}(a:v∈ae l w)(c:(l.getD v bu).Z3=3):∃i,i<(fJ l w).length/\Ei l w i=(l.getD v bu).ZI:=by have d:v∈fJ l w:=WC.2 ⟨a,by rw[c];rfl⟩;have⟨i,b,e⟩:=WS d;refine⟨i,b,?_⟩;grind [fJ,Ei]
theorem Ql{l:List Q}(h:b∈cU l w):b∈(l.getD w bu).ZI∨∃i,i<(fJ l w).length/\b∈Ei l w i:=by have⟨n,s,p,m,o,_,g⟩:=oI.1 h;rcases qL.1 g with q | ⟨k,u,d,a,c,j⟩;{grind [symsAt,lZ]};{right;have⟨i,f,e⟩:=zaY (gL.2 ⟨u,d,c,VH a⟩) (lZ d ▸ a);exact⟨i,f,by rwa [e,lZ d]⟩}
theorem gI{l:List Q}{i:Nat}(A:Mb l w)(h:i<(bm l w).length):gD (cU l w) i∈cU l w/\aU (cU l w) (gD (cU l w) i)=some i:=by rw[<-jL]at h;exact⟨fC h,nR A.hy.uq (i:=i) h⟩
end
theorem mp(b:Ef H){s:Q}(a:H[w]?=some s)(d:s.Z3≠1)(g:cn H w v=true):cd H s.Z5 v=some w:=by unfold cd;refine jU ((VT.1 a).1) ?_ (λi c=>zbu (λu e f=>b i w u s c e a f d));grind [jl]
def flJ(z:Vq)(l:List Q)(kf kg:Nat):Vs:=(xsJ l kf kg).map (λi=>nm z (lR 120 i))++(List.range (bm l kg).length).map (λi=>nm z (lR 121 i))
def hoJ(z:Vq)(l:List Q)(kf kg:Nat):Vs:=(List.range (fJ l kg).length).map (λi=>nm z (mP 121 i))++(List.range (fJ l kf).length).map (λi=>nm z (mP 120 i))
def mR(l:List Q):Vs:=(nz l).map (labN l)
section
variable {T z U:Vq} {l L:List Q} {kf kg:Nat} {w1 w2:Vs} {tw:Bool}
end
theorem ks(h:aU D b=some w):w<D.length/\D[w]?=some b:=by have c:=kT h;have a:=YW (p:=λw=>(D.getD w ⟨#[]⟩).toList==b.toList) h;grind [GZ]
theorem zbw{k:Bk}(h:b∈k.floats++k.holds++k.ZQ):1<=nQ k b/\nQ k b<=k.floats.length+k.holds.length+k.ZQ.length/\(k.floats++k.holds++k.ZQ)[nQ k b-1]?=some b:=by unfold nQ;cases f:aU k.floats b with|some i=>grind [ks]|none=>{simp only;cases d:aU k.holds b with|some i=>have⟨a,c⟩:=ks d;grind|none=>{simp only;cases e:aU k.ZQ b with|some i=>have⟨a,c⟩:=ks e;grind|none=>grind [dR]}}
theorem Ni(m:Ef H){k:Bk}(f:z3.map (labN H)=k.floats++k.holds++k.ZQ)(l:∀n∈z3,∃s,H[n]?=some s/\s.Z3≠1/\cn H n w=true)(h:b∈k.floats++k.holds++k.ZQ) :
  1<=nQ k b/\nQ k b<=z3.length/\cd H b w=some (z3.getD (nQ k b-1) 0):=by (have⟨j,p,d⟩:=zbw h;have o:=congrArg List.length f;rw[VJ,Vx,Vx]at o;refine⟨j,by omega,?_⟩;have a:nQ k b-1<z3.length:=by omega);(rw[<-f,VX,Vv a]at d;have⟨s,c,g,i⟩:=l _ (VZ a);have e:b=s.Z5:=by rw[<-Wb d];unfold labN;rw[c]);rw[e,mp m c g i,Vz,Vv (e ▸ a)];simp[e,Option.getD_some]
def Av(lf lg:Vq):Vs:=if lf=lg then [lg] else [lg,lf]
def Lu(k:Bk)(lf lg lab:Vq):Nat:=nQ (kE k [] (Av lf lg) ⟨#[]⟩) lab
def Nh(k:Bk)(lf lg lab:Vq):List UInt8:=(jY (Lu k lf lg lab)).data.toList
section
variable {k:Bk} {pr la:Vs} {pa lab lf lg:Vq}
theorem zbO(h:lab∈k.floats++k.holds):qJ (kE k pr la pa) lab=kE k (pr++[lab]) la (pa++jY (Lu k lf lg lab)):=by have a:(zw (kE k pr la pa) lab).floats=k.floats:=rfl;have b:(zw (kE k pr la pa) lab).holds=k.holds:=rfl;have c:(kE k [] (Av lf lg) ⟨#[]⟩).floats=k.floats:=rfl;have d:(kE k [] (Av lf lg) ⟨#[]⟩).holds=k.holds:=rfl;unfold qJ numK Lu nQ;rw[a,b,c,d];cases e:aU k.floats lab with|some i=>rfl|none=>{simp only;cases f:aU k.holds lab with|some i=>rfl|none=>grind [dR]}
theorem Js:aU (o :: I) o=some 0:=by grind [aU,jU]
theorem zbN(d:aU k.floats lab=none)(e:aU k.holds lab=none):qJ (kE k pr la pa) lab=match aU la lab with
  | some i=>kE k (pr++[lab]) la (pa++jY (k.floats.length+k.holds.length+i+1))
  | none=>kE k (pr++[lab]) (la++[lab]) (pa++jY (k.floats.length+k.holds.length+la.length+1)):=by have a:(zw (kE k pr la pa) lab).floats=k.floats:=rfl;have b:(zw (kE k pr la pa) lab).holds=k.holds:=rfl;have c:(zw (kE k pr la pa) lab).ZQ=la:=rfl;unfold qJ numK nQ;rw[a,b,c,d,e];simp only;cases aU la lab with|some i=>rfl|none=>rfl
theorem zbv(a:aU k.floats lab=none)(b:aU k.holds lab=none):Lu k lf lg lab=match aU (Av lf lg) lab with
  | some i=>k.floats.length+k.holds.length+i+1
  | none=>k.floats.length+k.holds.length+(Av lf lg).length+1:=by grind [kE,Av,Lu,nQ]
theorem Ub(lf lg:Vq):∃r,Av lf lg=lg :: r:=by unfold Av;split <;> exact⟨_,rfl⟩
theorem zcO(a:aU k.floats lg=none)(b:aU k.holds lg=none):qJ (kE k pr [] pa) lg=kE k (pr++[lg]) [lg] (pa++jY (Lu k lf lg lg)):=by have⟨r,c⟩:=Ub lf lg;rw[zbN a b,zbv a b,c,Js];rfl
end
def lM(L:List Q)(a:Nat)(lab:Vq):eB:=⟨2,dM L a lab,cQ⟩
structure Mh(L:List Q)(a:Nat)(k:Bk)(lf lg:Vq)(NA:Vu):Prop where
 dif:Ef L
 labs:NA.map (labN L)=k.floats++k.holds++Av lf lg
 held:∀n∈NA,∃s,L[n]?=some s/\s.Z3≠1/\cn L n a=true
 len:NA.length+2<=120
section
variable {L:List Q} {a:Nat} {k:Bk} {lf lg:Vq} {NA:Vu}
theorem Mh.nu(h:Mh L a k lf lg NA)(f:b∈k.floats++k.holds++Av lf lg):1<=Lu k lf lg b/\Lu k lf lg b<=NA.length/\NA.getD (Lu k lf lg b-1) 0=dM L a b/\cd L b a=some (dM L a b):=by have⟨c,d,e⟩:=Ni (k:=kE k [] (Av lf lg) ⟨#[]⟩) h.dif h.labs h.held f;refine⟨c,d,?_,?_⟩;{unfold dM;rw[e];rfl};grind [dM]
theorem Mh.rd(h:Mh L a k lf lg NA)(g:b∈k.floats++k.holds++Av lf lg)(d:Vu)(C:List eB)(e:Bool):xj (Nh k lf lg b) ⟨NA,d,C,0,e⟩=some ⟨NA,d,C++[lM L a b],0,true⟩:=by have⟨f,i,j,_⟩:=h.nu g;have:=zbK (c:=⟨NA,d,C,0,e⟩) f (by have:=h.len;omega) rfl (by grind);grind [Nh,Dh,Lu,lM,cQ]
end
def SE(v s:List UInt8):List UInt8:=s.flatMap (λb=>if b=33 then v else [b])
theorem Vl:SE z9 (z7++W)=SE z9 z7++SE z9 W:=WK
theorem Hb{s:List UInt8}(h:∀b∈s,b≠33):SE z8 s=s:=by unfold SE;induction s with|nil=>rfl|cons x s a=>grind
theorem UJ(i:Nat)(k:i<=o.size):(wJ o y i).1.data.toList++((o.data.toList.take i).drop (wJ o y i).2)=SE y.data.toList (o.data.toList.take i):=by (have f:o.data.toList.length=o.size:=by rfl);induction i with|zero=>rfl|succ i g=>(have j:=DB o y i;have a:i<o.data.toList.length:=by omega);(have d:(o.extract i (i+1)).toList=[o.data.toList[i]]:=by rw[Wc,Yj,Yv,Yc,show i+1-i=1 by omega,Wj a];rfl);rw[GE,d,Wt a,Vl,<-g (by omega)];by_cases e:o.data.toList[i]=33;{(rw[VQ (by grind),e];have b:(o.data.toList.take i++[33]).drop (i+1)=[]:=WO (by grind);have c:SE y.data.toList [33]=y.data.toList:=by grind [SE]);(show((wJ o y i).1++o.extract (wJ o y i).2 i++y).data.toList++(o.data.toList.take i++[33]).drop (i+1)=_);rw[b,c,WH,VY,VY,WF,WF,Yj,Yv,Yc,Y9]};grind [SE,Hb]
theorem UI:(Rd o y).data.toList=SE y.data.toList o.data.toList:=by (have a:o.data.toList.length=o.size:=by rfl);have h:=UJ o y o.size (Vy _);rw[<-a,WN,a]at h;rw[<-h];unfold Rd;rw[VY,WF,Yj,Yv,Yc,Xy (by simp)]
section
variable {L:List Q} {a:Nat} {k:Bk} {NA:Vu} {n:Nat}
end
theorem Li(h:w∉z3):ji z3 w=false:=by grind [ji]
theorem EC{L:List Q}{a:Nat}{Z8:Pl}{p:Pl}{r:List (Vq×Pl)}(e:(b.toList == [41])=true)(c:List (Vq×Pl)):∀(i:Nat) (d:Vu),(∀x∈c,cd L x.1 a=some (dM L a x.1)/\(x.1.toList == [41])=false)->(d++c.map (λx=>dM L a x.1)).Nodup ->
  cA L a Z8 i (c++(b,p) :: r) d=((i+c.length+1,cD),d++c.map (λx=>dM L a x.1)):=by induction c with|nil=>grind [cA]|cons x c f=>grind [dM,cA,Li]
theorem Ti{L:List Q}{a:Nat}{s:Q}{ls:Vs}{lt:Vq}{C:List eB}{tg:Vu}{bh:Bool}(D:s.ZT.map (·.1)=(⟨#[40]⟩:Vq) :: (ls++[(⟨#[41]⟩:Vq),lt]))(P:∀x∈ls,cd L x a=some (dM L a x)/\(x.toList == [41])=false)(o:(ae L a++ls.map (dM L a)).Nodup)(R:xj lt.data.toList ⟨ae L a++ls.map (dM L a),[],[],0,false⟩=some ⟨ae L a++ls.map (dM L a),tg,C,0,bh⟩)(M:C≠[]) :
  ∃A,bW L a s=(A,cD)/\A.map fZ=C:=by (have U:((⟨#[40]⟩:Vq).toList == [40])=true:=by simp);(have q:((⟨#[41]⟩:Vq).toList == [41])=true:=by simp);cases e:s.ZT with|nil=>grind|cons W r=>(rw[e,Wp]at D;obtain⟨v,F⟩:=WU D;obtain⟨i,r2,rfl,y,G⟩:=YM.1 F;obtain⟨xa,r3,rfl,B,H⟩:=Xd.1 G;obtain⟨xb,T,rfl,j,I⟩:=Xd.1 H;have K:T=[]:=by simpa using I);(subst K;have⟨ad,X⟩:=W;have⟨af,k⟩:=xa;have⟨d,b⟩:=xb;simp only at v B j;subst v B j;have f:ki s=true:=by unfold ki;rwa [e]);(have w:i.map (λx=>dM L a x.1)=ls.map (dM L a):=by rw[<-y,Wr];rfl);(have j:=EC (L:=L) (a:=a) (Z8:=s.Z8) (p:=k) (r:=[(d,b)]) q i 1 (ae L a) (λx S=>P x.1 (y ▸ WL S)) (w ▸ o);rw[w]at j;have N:s.ZT.drop 1=i++(⟨#[41]⟩,k) :: [(d,b)]:=by rw[e];rfl);(have n:s.ZT.drop (1+i.length+1)=[(d,b)]:=by rw[e,show 1+i.length+1=(i.length+1)+1 by omega,Y2,Zq];simp);(have O:pK ⟨ae L a++ls.map (dM L a),[],[],0,false⟩=⟨ae L a++ls.map (dM L a),[],[],0,false⟩:=rfl;have⟨V,u⟩:=zad (t:=d) (p:=b) (c:=⟨ae L a++ls.map (dM L a),[],[],0,false⟩) (O ▸ R);have z:nE L a s=(cD,(hQ d b ⟨ae L a++ls.map (dM L a),[],[],0,false⟩).2):=by unfold nE;rw[N,j];simp only;rw[n];unfold Dn;rw[VQ (by rfl),jF,V,VQ (by rfl)];rfl);have⟨g,m⟩:∃g,g=(hQ d b ⟨ae L a++ls.map (dM L a),[],[],0,false⟩).2:=⟨_,rfl⟩;(rw[<-m]at z u;have E:g.ZP=0:=by have:=congrArg ie.ZP u;exact this);(have l:g.steps.map fZ=C:=by have:=congrArg ie.steps u;exact this);refine⟨g.steps,?_,l⟩;unfold bW;rw[VQ f];unfold iP mo;rw[z];simp only;rw[VQ (by rfl),VQ E,VI];intro c;have:g.steps=[]:=Wx c;rw[this]at l;exact M l.symm
def QA(z:Vq)(c:UInt8)(l:List Q)(k q:Nat):Vq:=if((l.getD ((ae l k).getD q 0) bu).Z3==3)=true then nm z (mP c (pB l k q)) else nm z (lR c (wD l k q))
theorem LA(h:mQ H w)(z:Vq)(c:UInt8)(a:v<(ae H w).length):pN z (dh (aH H w)).which v ⟨#[c]⟩=QA z c H w v:=by rw[oj h];unfold pN QA;rw[Ad _ _ _ _ _ a];cases b:((H.getD ((ae H w).getD v 0) bu).Z3==3);{simp only[Bool.false_eq_true,if_false];rw[XN,VQ (by simp),XT];exact Jc z c _};{(simp only[if_true];rw[XN,VI (by omega)];have e:(-1-(-1-((((ae H w).take v).filter (λh=>(H.getD h bu).Z3==3)).length:Int))).toNat=pB H w v:=by unfold pB;omega);rw[e];exact zee z c _}
theorem nt{l:List Q}{k q:Nat}(b:q<(ae l k).length):(((l.getD ((ae l k).getD q 0) bu).Z3==3)=true/\pB l k q<(fJ l k).length/\(fJ l k).getD (pB l k q) 0=(ae l k).getD q 0)∨(((l.getD ((ae l k).getD q 0) bu).Z3==3)=false/\wD l k q<(Hw l k).length/\(Hw l k).getD (wD l k q) 0=(ae l k).getD q 0):=by (have e:(ae l k).getD q 0=(ae l k)[q]:=by grind);rw[e];cases a:((l.getD (ae l k)[q] bu).Z3==3);{grind [E0,bu,ae,Hw,wD]};grind [E0,bu,ae,fJ,pB]
theorem QM(b:Vs):∀(a:Vu) (p:Nat),p∈mS I b a ↔ p∈a∨∃x∈b,aU I x=some p:=by induction b with|nil=>intro a p;simp[mS]|cons x r c=>grind [mS,aU,ji]
theorem po:w∈iu D z2 ↔ ∃x∈z2,aU D x=some w:=by grind [iu,QM]
theorem Dv(h:aU D b=some w):b∈D:=WE (ks h).2
theorem QN(a:b∈z2)(h:aU D b=some w):(aI D z2).contains w=true:=by rw[Yb];exact WV.2 ⟨b,a,h⟩
section
variable {T z U:Vq} {l L:List Q} {kf kg:Nat} {w1 w2:Vs} {tw:Bool} {a:Nat}
end
def zaN(l:List Q)(vs:Vs)(ms:List Bool)(A:List eB)(S:List Vs×List Vs):Prop:=∀Z8 goal B,(cr l vs ms Z8 goal (A++B) S).1=10
def rF(c:Bool)(l:List Q)(vs:Vs)(ms:List Bool)(A:List eB)(S S':List Vs×List Vs):Prop:=if c=true then so l vs ms A S S' else zaN l vs ms A S
section
variable {l:List Q} {vs:Vs} {ms:List Bool} {A B:List eB} {S S1 S2:List Vs×List Vs} {c1 c2:Bool}
theorem rF.app(c:rF c1 l vs ms A S S1)(b:c1=true->rF c2 l vs ms B S1 S2):rF (c1&&c2) l vs ms (A++B) S S2:=by unfold rF at *;cases c1;{rw[VI (by simp)]at c;rw[VI (by simp)];intro d a X;rw[Wg];exact c d a _};{rw[VQ rfl]at c;have b:=b rfl;cases c2;{rw[VI (by simp)]at b;rw[VI (by simp)];intro d a X;rw[Wg,c];exact b d a X};{rw[VQ rfl]at b;rw[VQ (by simp)];exact c.app b}}
theorem rF.nil:rF true l vs ms [] S S:=by unfold rF;rw[VQ rfl];exact so.nil
theorem rF.one{e:Vs}{a:List Vs}(h:dK l vs ms S.1 S.2 z4=((0,D),a))(d:e.length<=32->D=e)(f:32<e.length->32<D.length):rF (decide (e.length<=32)) l vs ms [z4] S (S.1++[e],a++[e]):=by unfold rF;by_cases c:e.length<=32;{rw[VQ (by grind)];rw[d c]at h;exact so.one h c};{rw[VI (by grind)];intro g b X;grind [cr,playF]}
end
theorem mD(a:List Bool)(b c:List Vs)(s:eB):dK G I a b c s=dK G I a b c (fZ s):=rfl
theorem Tw(h:z5.map fZ=[z4]):∃s,z5=[s]/\fZ s=z4:=by simp_all
theorem NH(b:Vs):∀a,32<(a++b.flatMap (tk m X)).length->32<(iq m X b a).length:=by induction b with|nil=>grind [iq]|cons x r c=>grind [iq]
theorem tO{α β:Type}(L:List α)(d:α)(f:α->β):(List.range L.length).map (λi=>f (L.getD i d))=L.map f:=by apply Zm;{simp};grind
theorem E7{i:Nat}(a:i<(Hw H w).length)(e:(Hw H w).getD i 0=(ae H w).getD v 0):bH (H.getD ((ae H w).getD v 0) bu)=gD (bm H w) i/\az (H.getD ((ae H w).getD v 0) bu)=gD (cU H w) i:=by grind [Hw,zcU,Jh,za9]
section
variable {T z U:Vq} {l L:List Q} {kf kg:Nat} {w1 w2:Vs} {tw:Bool} {a:Nat}
theorem yn(l:List Q)(k:Nat):(Hw l k).length=(bm l k).length:=by grind [bm]
end
section
variable {T z U:Vq} {l L:List Q} {kf kg:Nat} {w1 w2:Vs} {tw:Bool} {a q0:Nat}
end
theorem Fn:(ae G N).length<=nD G:=by (have e:nD G=(List.range G.length).countP (λn=>decide (2<=(G.getD n bu).Z3)):=by (have a:(List.range G.length).map (λi=>G.getD i bu)=G:=by rw[tO G bu (λs=>s)];simp);(have b:nD G=nD ((List.range G.length).map (λi=>G.getD i bu)):=by rw[a]);rw[b];unfold nD;rw[Zz];rfl);rw[e];unfold ae eK;rw[<-YZ];refine List.countP_mono_left (λn c h=>?_);have⟨s,f,_,d⟩:=gL.1 (WC.2 ⟨c,h⟩);grind
theorem R7(h:∀s∈z5,s.Z3≠1):ph z5=none:=by grind [ph,jQ]
theorem Q5(R:List Rw)(A:List eB):lB R A=lB R (A.map fZ):=by unfold lB;rw[List.all_map];rfl
section
variable {T z U:Vq} {l L:List Q} {kf kg:Nat} {w1 w2:Vs} {tw:Bool} {a q0:Nat} {k:Bk} {lt:Vq}
end
section
variable {T z U:Vq} {l L:List Q} {kf kg:Nat} {w1 w2:Vs} {tw:Bool} {a q0:Nat} {k:Bk} {lt:Vq}
theorem mF{C:List eB}(h:z5.map fZ=C++[z4]):∃B s,z5=B++[s]/\B.map fZ=C/\fZ s=z4:=by obtain⟨B,D,rfl,a,b⟩:=M1 h;grind [Tw]
end
section
variable {T z U:Vq} {l L:List Q} {kf kg:Nat} {w1 w2:Vs} {tw:Bool} {a q0:Nat} {k:Bk} {lt:Vq}
theorem zb0(c:Nat->Nat)(a:Nat->Vq)(A:List eB):∀q,A.foldl (wR c a) q=(A.map fZ).foldl (wR c a) q:=by induction A with|nil=>simp|cons s A b=>intro q;rw[Xn,Wp,Xn,b];rfl
end
theorem xh:(aU D b).isSome=true ↔ b∈D:=by constructor;{intro h;cases a:aU D b with|none=>grind|some i=>exact Dv a};grind [iW]
theorem LU(g:Ef H)(f:w<H.length)(b:H[v]?=some E)(d:gX E.Z3=true)(e:∀n u,H[n]?=some u->gX u.Z3=false->da R n≠1):E.Z5∈((List.range H.length).filter (usA H R w)).map (dQ H) ↔ RP H R w v/\da R v=1:=by (have c:=(VT.1 b).1;have a:dQ H v=E.Z5:=by unfold dQ;grind);grind [usA,LJ,gX,wZ,dQ,lZ]
theorem LV(g:Ef H)(f:w<H.length)(b:H[v]?=some E)(d:gX E.Z3=true)(e:∀n u,H[n]?=some u->gX u.Z3=false->da R n≠2/\da R n≠3):E.Z5∈((List.range H.length).filter (usB H R w)).map (dQ H) ↔ RP H R w v/\(da R v=2∨da R v=3):=by (have c:=(VT.1 b).1;have a:dQ H v=E.Z5:=by unfold dQ;grind);grind [usB,LJ,gX,wZ,dQ,lZ]
theorem xu(b:H[w]?=some E)(a:gX E.Z3=false):da (aK H H.length) w=0:=by rw[vm H (VT.1 b).1];unfold ci jm;rw[b];simp only;unfold gX at a;rw[Ys]at a;rw[a.1,a.2];rfl
theorem Kx(h:RP H R w v)(a:iD R w=false):v=w :=
 h (λx=>x=w) rfl (by grind)
section
variable {T z U:Vq} {l L:List Q} {kf kg:Nat} {w1 w2:Vs} {tw:Bool} {a q0:Nat} {k:Bk} {lt:Vq}
end
abbrev bP (l:List Q) (n:Nat):Fm:=dh (aH l n)
section
variable {T z:Vq} {l:List Q} {kf kg:Nat}
structure bD(T z:Vq)(l:List Q)(kf kg:Nat):Prop where
 fine:dE T
 zed:lI T z
 el:l=(bz T).2.ZZ
 ff:mQ l kf
 fg:mQ l kg
 af:gM l kf=true
 ag:gM l kg=true
theorem bD.types(a:mQ l kf):(bP l kf).types=bm l kf/\(bP l kf).vars=cU l kf/\(bP l kf).goal=(l.getD kf bu).ZI/\(bP l kf).vars.length=(bm l kf).length/\(bP l kf).ess.length=(fJ l kf).length/\∀i,i<(fJ l kf).length->(bP l kf).ess.getD i []=Ei l kf i:=by have F:=Fc a;refine⟨F.types,F.vars,F.goal,by rw[F.vars,jL],by rw[F.ess,VJ],λi b=>?_⟩;rw[F.ess,Vz,VX,Vv b];grind [Ei]
theorem bD.code(X:bD T z l kf kg):lyC (bP l kg)=jC l kg:=by unfold lyC jC bH gD;rw[(bD.types X.fg).2.2.1]
theorem bD.bd(X:bD T z l kf kg)(n:Nat):(bm l n).length<4200/\(fJ l n).length<4200/\(ae l n).length<4200:=by have:=R4 X.fine n;rw[X.el];omega
theorem Di(h:0<b.size):¬((b.toList == [])=true):=λc=>by
 have e:=W0 c;rw[Wc]at e;have a:b.data.toList.length=b.size:=by rfl
 grind
theorem zbc(b:Bool)(a:Nat):OH z6 m X b a=(b||(List.range a).any (λi=>decide (32<(dS z6 m (X.getD i [])).length))):=by induction a with|zero=>simp[OH]|succ a c=>grind [OH]
theorem Tx{l:List Q}(b:v<(fJ l w).length):∃q,q<(ae l w).length/\((l.getD ((ae l w).getD q 0) bu).Z3==3)=true/\pB l w q=v:=by (have c:=(CD b);have⟨q,a,e⟩:=WS c.1;have d:(ae l w).getD q 0=(fJ l w).getD v 0:=by grind);refine⟨q,a,by grind,?_⟩;rcases nt a with ⟨-,f,g⟩ | ⟨j,-⟩;{have i:(fJ l w).Nodup:=(yJ l w).filter _;grind [fJ,pB,Qr]};grind
end
section
variable {T z:Vq} {l:List Q} {kf kg:Nat}
theorem CO(L:List Pr)(h:w<L.length):gD (L.map (·.1)) w=L[w].1/\gD (L.map (·.2)) w=L[w].2:=by grind [gD]
def pI(z:Vq)(s s':Vq×Bool)(ps:List (List UInt8×List UInt8)):Prop:=s'.1.data.toList=s.1.data.toList++Hu z (ps.filter (λp=>!(p.1==p.2)))/\s'.2=(s.2||ps.any (λp=>p.1==p.2))
theorem pI.nil:pI z P P []:=⟨by simp[Hu,uV,pS],by simp⟩
theorem pI.trans{s e f:Vq×Bool}{a b:List (List UInt8×List UInt8)}(c:pI z s e a)(d:pI z e f b):pI z s f (a++b) :=
 ⟨by rw[d.1,c.1,WB,KM,Wg],by rw[d.2,c.2,YY,Bool.or_assoc]⟩
theorem pI.one:pI z P (crO (Go.Proofs.YtnbalopedcgpcaaGreat.nm z z7) (Go.Proofs.YtnbalopedcgpcaaGreat.nm z W) P) [(z7,W)]:=by unfold crO pI;rw[uH];cases h:(z7==W);{rw[VI (by simp)];refine⟨?_,by simp[h]⟩;rw[Xv (by grind),Yk];exact KN z (z7,W) _};grind [Hu,uV,pS]
theorem zat(h:w<F.length):gD (F.map (Go.Proofs.YtnbalopedcgpcaaGreat.nm z)) w=Go.Proofs.YtnbalopedcgpcaaGreat.nm z F[w]:=by grind [gD]
theorem Tk(q:Nat)(c:q<=F.length):pI z P (Iq (Go.Proofs.YtnbalopedcgpcaaGreat.nm z W) (F.map (Go.Proofs.YtnbalopedcgpcaaGreat.nm z)) P q) ((F.take q).map (λv=>(W,v))):=by induction q with|zero=>exact pI.nil P|succ q b=>(have a:q<F.length:=by omega);rw[Iq,Wt a,VU,zat F a];exact(b (by omega)).trans (pI.one _ W _)
theorem Tj(b:List (List UInt8))(p:Nat)(d:p<=F.length):pI z P (KJ (F.map (Go.Proofs.YtnbalopedcgpcaaGreat.nm z)) (b.map (Go.Proofs.YtnbalopedcgpcaaGreat.nm z)) P p) ((F.take p).flatMap (λu=>b.map (λv=>(u,v)))):=by induction p with|zero=>exact pI.nil P|succ p c=>(have a:p<F.length:=by omega);rw[KJ,Wt a,WK,Xc,zat F a,VJ];have:=Tk (z:=z) (KJ (F.map (Go.Proofs.YtnbalopedcgpcaaGreat.nm z)) (b.map (Go.Proofs.YtnbalopedcgpcaaGreat.nm z)) P p) F[p] b b.length (Vy _);rw[WN]at this;exact(c (by omega)).trans this
end
theorem Fq(h:∀t∈D,0<t.size)(b:w<=D.length):tM D ⟨#[]⟩ w=List.range w:=by unfold tM;rw[List.filter_eq_self];intro i a;have:=h _ (fC (show i<D.length by have:=VD.1 a;omega));rw[Ze];cases c:((gD D i).toList==(⟨#[]⟩:Vq).toList);{rfl};{rw[show(⟨#[]⟩:Vq).toList=[] by simp]at c;exact absurd c (Di this)}
section
variable {T z:Vq} {l:List Q} {kf kg q0:Nat}
theorem bD.tyw(X:bD T z l kf kg)(k:Nat):∀t∈bm l k,0<t.size:=λt a=>by
 rw[X.el]at a;exact(R6 X.fine k t a).1.1.1
end
section
variable {T z:Vq} {l:List Q} {kf kg q0:Nat}
theorem bD.at_(X:bD T z l kf kg)(a:gM l w=true):w<l.length/\∃s,l[w]?=some s/\l.getD w bu=s/\gX s.Z3=true/\rD T s.Z5/\Wd s.Z5/\s.Z5.size<=1024:=by unfold gM at a;cases d:l[w]? with|none=>grind|some s=>(rw[d]at a;have a:gX s.Z3=true:=a;have e:s.Z3=4∨s.Z3=5:=by grind [gX]);have c:=WE d;rw[X.el]at c;have b:=((kU T X.fine.size).ZZ _ c).lab (by omega);exact⟨by grind,s,rfl,by grind,a,b.1.2,b.1.1.1,b.1.1.2⟩
theorem Dk(d:lI T z)(c:rD T b)(a:List UInt8):Go.Proofs.YtnbalopedcgpcaaGreat.nm z a≠b:=λe=>by
 have:=rT d b c a
 grind
theorem bD.labOut(X:bD T z l kf kg)(k:gM l w=true):aU (mR l++flJ z l kf kg) (l.getD w bu).Z5=none/\aU (hoJ z l kf kg) (l.getD w bu).Z5=none:=by have⟨t,s,d,r,u,j,_⟩:=X.at_ k;rw[r];constructor;{rw[dR];intro h;rcases VG.1 h with c | c;{(have⟨m,p,e⟩:=VK.1 c;have⟨a,b⟩:=WC.1 p;have a:=VD.1 a;unfold oH at b;unfold labN at e;rw[Vv a]at b e;have b:(l[m].til==0&&jx l[m] (oS l))=true:=b;have e:l[m].Z5=s.Z5:=e;have n:l[m].Z3=2∨l[m].Z3=3:=by grind [jx]);(have o:s.Z3=4∨s.Z3=5:=(by grind [gX]);have g:Ef l:=(by rw[X.el];exact(uN T).diff);have f:m≠w:=λq=>by subst q;rw[Vv a]at d;have:=Wb d;rw[this]at n;omega);rcases YH f with q | q;{have:=g m w _ _ q (Vv a) d (by omega) (by omega);rw[e]at this;simp at this};{have:=g w m _ _ q d (Vv a) (by omega) (by omega);grind}};{rcases VG.1 c with c | c;all_goals(have⟨i,_,e⟩:=VK.1 c;exact Dk X.zed j _ e)}};{rw[dR];intro h;rcases VG.1 h with c | c;all_goals(have⟨i,_,e⟩:=VK.1 c;exact Dk X.zed j _ e)}
theorem ny(a:mQ l kf):(bP l kf).hyps.length=(ae l kf).length:=by grind [CK]
end
section
variable {T z:Vq} {l:List Q} {kf kg q0:Nat}
theorem zX(l:List Q)(n:Nat):symsAt (l.map bare) n=symsAt l n:=by unfold symsAt;rw[VX];cases l[n]? <;> rfl
theorem Uk(l:List Q):oE (l.map bare)=oE l:=by funext n;unfold oE;rw[VX];cases l[n]? <;> rfl
theorem Un(l:List Q):oS (l.map bare)=oS l:=by unfold oS;rw[Uk,VJ,show symsAt (l.map bare)=symsAt l from funext (zX l)]
theorem qu(l:List Q):nz (l.map bare)=nz l:=by unfold nz;rw[VJ,show oH (l.map bare)=oH l from funext (λn=>by unfold oH;rw[Un,VX];cases l[n]? <;> rfl)]
theorem Qe(l:List Q)(n:Nat):labN (l.map bare) n=labN l n:=by unfold labN;rw[VX];cases l[n]? <;> rfl
theorem xg{n:Nat}(h:n∈nz l):∃h:n<l.length,l[n].Z3=2∨l[n].Z3=3:=by have⟨a,b⟩:=WC.1 h;grind [oH,jx,oS]
theorem Gg(k:dE T)(q:lI T z):(dh (bQ T z)).hyps=mR (bz T).2.ZZ:=by (have N:=ft T k.size;have A:=(ip T k.size k.inc).ok;have w:∀s∈(bz T).2.ZZ,s.ZI.length<=10000:=λs o=>by obtain⟨i,u,rfl⟩:=WS o;exact A.syms i u);(have d:∀n∈nz (cC T),∃h:n<(cC T).length,AT (cC T)[n]/\((cC T)[n].Z3=2∨(cC T)[n].Z3=3):=λn l=>by (have⟨t,f⟩:=xg l;have j:n<(bz T).2.ZZ.length:=by grind [cC]);(have e:(cC T)[n]=bare (bz T).2.ZZ[n]:=Yz bare;have v:(bz T).2.ZZ[n].Z3=2∨(bz T).2.ZZ[n].Z3=3:=by rw[e]at f;exact f);have:=N.stw w _ (VZ j) (by omega);exact⟨t,by rw[e];exact⟨this.lab,this.syms,this.pos,this.two,this.sz⟩,f⟩);(have C:∀x∈oV (cC T),gA x:=by intro x g;unfold oV cm at g;have⟨n,l,b⟩:=WV.1 g;have⟨m,c,_⟩:=d n l;unfold fN at b;rw[Vv m]at b;simp only at b;split at b;{next v => have b:=Wb b;have f:=c.two (by grind);rw[<-b];unfold az;split;{refine(c.syms _ ?_).noBl;grind};{exact tR}};{cases b});(have y:∀p∈oP (cC T),gA p.1/\gA p.2:=by grind [oP,Hy,wW]);(have o:AT (⟨4,Go.Proofs.YtnbalopedcgpcaaGreat.nm z [97],[Go.Proofs.YtnbalopedcgpcaaGreat.nm z [113]],[],cQ,0⟩:Q):=by refine⟨((gx q [97] (by decide)).1),λx g=>?_,by simp,by simp,?_⟩;{rw[VO.1 g];exact(gx q [113] (by decide)).1};{(have e:dt (⟨4,Go.Proofs.YtnbalopedcgpcaaGreat.nm z [97],[Go.Proofs.YtnbalopedcgpcaaGreat.nm z [113]],[],cQ,0⟩:Q)=vP z:=rfl;rw[e];unfold vP;have B:∀a:List UInt8,(Go.Proofs.YtnbalopedcgpcaaGreat.nm z a).size=z.size+a.length:=λa=>by unfold Go.Proofs.YtnbalopedcgpcaaGreat.nm;rw[VC];rfl);have:=q.size;simp[ByteArray.size_append,B];show z.size+1+1+2+(1+(z.size+1))<=_;omega});have r:vP z=dt (⟨4,Go.Proofs.YtnbalopedcgpcaaGreat.nm z [97],[Go.Proofs.YtnbalopedcgpcaaGreat.nm z [113]],[],cQ,0⟩:Q):=rfl;unfold dh im;rw[WN];unfold bQ Ag QJ;rw[Xo,Xo,r];simp[List.foldl_cons,List.foldl_nil];rw[(GY o rfl _).1,(yx _ y _).1,(Bd _ _ d _).1];unfold mR;show lJ.hyps++_=_;unfold cC;rw[qu,show labN ((bz T).2.ZZ.map bare)=labN (bz T).2.ZZ from funext (Qe _)];rfl
theorem Sd(d:b.data.toList≠[])(h:∀a∈b.data.toList,37<=a.toNat/\a.toNat<=126):Wd b:=by refine⟨?_,λi c=>?_⟩;{(have e:b.data.toList.length=b.size:=by rfl);grind};{rw[aR b i c];have:=h b[i] (by rw[WW];simp);grind [eV]}
theorem zbx(g:1<=w)(i:w<=800):(∀b∈(jY w).data.toList,37<=b.toNat/\b.toNat<=126)/\(jY w).data.toList≠[]:=by (have d:∀c:Int,65<=c->c<=126->∀b∈(sG c).data.toList,37<=b.toNat/\b.toNat<=126:=λc e f b a=>by have a:b∈[UInt8.ofNat c.toNat]:=a;grind [Ct]);unfold jY;split;{rw[VY,WF];grind [sG]};grind [sG]
end
def mtB(k:Bk)(v y:Int):Bk:=gT (gT k ⟨#[110]⟩ (bV k.goal) (bV k.ZT) v y) ⟨#[99]⟩ (bV k.goal) k.packed v y
theorem KY(a:Vs):a.length<=(pS (uV a)).length:=by rw[IB];induction a with|nil=>simp|cons x r b=>grind
theorem KZ{α:Type}(L:List α)(f:α->Vs)(c:Nat)(h:∀x∈L,c<=(f x).length):c*L.length<=(L.flatMap f).length:=by induction L with|nil=>simp|cons x r b=>have d:=h x (by simp);have e:=b (λy a=>h y (by simp[a]));rw[Wf,Vx,Ws,Nat.mul_succ];omega
section
variable {T z:Vq} {l:List Q} {kf kg q0:Nat} {k:Bk}
theorem Lx(l:List Q):(nz l).length<=nD l:=by
 have e:nD l=(List.range l.length).countP (λn=>decide (2<=(l.getD n bu).Z3)):=by
  (unfold nD;have:l=(List.range l.length).map (λn=>l.getD n bu):=by have:=tO l bu id;simp_all)
  conv=>lhs;rw[this]
  rw[Zz];rfl
 rw[e];unfold nz;rw[<-YZ];refine List.countP_mono_left (λn a h=>?_);have⟨b,c⟩:=xg (l:=l) (n:=n) (WC.2 ⟨a,h⟩);(grind)
end
section
variable {T z U:Vq} {l L:List Q} {kf kg q0:Nat} {k:Bk} {w1 w2:Vs} {tw:Bool} {lt:Vq}
theorem Sa(a:gM l w=true):(ci l w).ZO=1∨(ci l w).ZO=2∨(ci l w).ZO=3∨(ci l w).ZO=4∨(ci l w).ZO=5:=by unfold gM at a;unfold ci jm;grind [gX,cY,ph,bW,dB,io]
end
structure Syl(d:Db)(m:Nat):Prop where
 bnd:mM d m
 ZZ:∀s∈d.ZZ,s.ZI.length<=m
theorem Syl.take(h:Syl zn w)(x:Vq)(p:Pl):Syl (aO zn x p).2 (w+1):=by refine⟨h.bnd.take x p,?_⟩;have c:=h.bnd.ZK;rcases qM zn x p with e | ⟨y,-,e⟩ | ⟨e,-⟩;{rw[e];intro s a;have:=h.ZZ s a;omega};{rw[e];intro s a;have⟨d,b,f,_⟩:=zd a;have:=h.ZZ d b;grind};{rw[e];intro s a;rcases VG.1 a with a | a;{have:=h.ZZ s a;omega};grind}
theorem JC(f:Nat):∀k d m,k<=y.size->Syl d m->((k=0/\m=0)∨(2*m<=k+1/\Bdy y k))->(dC o y f k d).1.1=0->∃g,Syl (dC o y f k d).2 g/\2*g<=y.size+1:=by induction f with|zero=>intro k d m b N h _;exact⟨m,N,by omega⟩|succ f l=>intro k d m b N h a;rw[dC]at a ⊢;by_cases e:aG (au y k).1=true;{rw[VQ e]at a ⊢;have i:=FQ y _ k b e;have c:=fG y k b;by_cases j:((aO d (au y k).1.text (gZ o y (au y k).1.pos)).1==0)=true;{rw[VQ j]at a ⊢;refine l _ _ (m+1) c.2.1 (N.take _ _) (VH ⟨?_,i.1⟩) a;grind [au,cT]};grind};grind
theorem U9(a:dE b):∀s∈(bz b).2.ZZ,s.ZI.length<=512:=by have⟨m,c,e⟩:=JC ⟨#[109]⟩ b (b.size-0+1) 0 bK 0 (WD _) ⟨mM.empty,by simp[bK]⟩ (by simp) a.ok;intro s d;have:=c.ZZ s d;have:=a.size;omega
section
variable {T z:Vq} {l:List Q} {kf kg q0:Nat}
theorem bD.symB(X:bD T z l kf kg)(d:w<l.length):(l.getD w bu).ZI.length<=512/\(∀x∈(l.getD w bu).ZI,x.size<=1024/\Wd x):=by (have c:l.getD w bu∈l:=by grind);(have a:l.getD w bu∈(bz T).2.ZZ:=by rwa [<-X.el]);exact⟨U9 X.fine _ a,λx b=>by have:=((ft T X.fine.size).ZZ _ a).syms x b;exact⟨this.2,this.1⟩⟩
theorem bD.lyF(X:bD T z l kf kg)(k:gM l w=true)(a:mQ l w):Sq (bP l w):=by (have⟨n,v,o,p,x,q⟩:=bD.types a;have⟨s,_⟩:=X.at_ k;have b:=X.bd w;have F:=Fc a;have u:=X.symB s;have g:(bP l w).which.length=(ae l w).length:=by rw[oj a,L7]);refine⟨by omega,by grind,λt m=>?_,by rw[F.left,F.right,VJ,VJ],?_,by omega,λi=>?_,?_,?_,?_,by rw[g,ny a],by rw[ny a];omega,λi d=>?_⟩;{rw[n,X.el]at m;exact(R6 X.fine w t m).1.2};{rw[F.left,VJ];exact xi _ _ (by grind [mf,ae])};{by_cases d:i<(fJ l w).length;{rw[q i d];unfold Ei;have:=CD d;have⟨B,C⟩:=X.symB (re l w _ this.1);grind};grind};{rw[o];have f:=k;rw[X.el]at f;have⟨r,e,_⟩:=xr X.fine f;rw[X.el,e];simp};{grind};{grind};{rw[g]at d;have y:=zcY l (ae l w) 0 0 i;rw[oj a];refine⟨by omega,?_⟩;rw[Ad _ _ _ _ _ d,p];split;{omega};{next c => rcases nt d with ⟨A,-,-⟩ | ⟨-,j,-⟩;{grind};{rw[yn]at j;rw[XN];exact Int.ofNat_lt.2 j}}}
end
theorem Qy(g:dE b)(j:lI b O)(a:List UInt8)(k:a≠[97]):dA (bz (gJ b O)).2.ZZ (nm O a)=none:=by (have⟨d,p,e,f,_⟩:=zm b O g j;have i:(bz (gJ b O)).2.ZZ.map bare=cC b++[⟨4,O++lL [97],[O++lL [113]],[],cQ,0⟩]:=by unfold gJ;rw[e];show d.ZZ.map bare=_;rw[f,VU];rfl);rw[<-yi,i];unfold dA;rw[Yi];intro m c;have c:=VD.1 c;rw[Bool.not_eq_true];by_cases h:m<(cC b).length;{grind [Bu]};{(rw[Vx]at c;have c:m<(cC b).length+1:=c;obtain rfl:m=(cC b).length+0:=by omega);rw[uG];unfold fE;(show(((nm O [97]).toList==(nm O a).toList)&&true)=false);grind [uH]}
section
variable {T z:Vq} {l:List Q} {kf kg:Nat}
end
section
variable {T z U:Vq} {l L:List Q} {kf kg a q0:Nat} {w1 w2:Vs} {tw:Bool}
end
section
variable {T z:Vq}
end
section
variable {T z U:Vq} {l L:List Q} {kf kg q0:Nat} {w1 w2:Vs}
end
section
variable {k:Bk} {f g:Fm} {la lb:Vq}
set_option maxRecDepth 100000
theorem xZ{z sg:Vq}{us vals:Vs}{L:List Vs}{d:Vq}(e:z.size<=10)(c:sg.size<=10)(h:∀i,(dS us vals (L.getD i [])).length<=1000000/\∀x∈dS us vals (L.getD i []),x.size<=2000)(b:L.length<=4200):(hyT z sg us vals L d L.length).size<=d.size+4200*100001000060:=by have a:=Fk (z:=z) (sg:=sg) (us:=us) (vals:=vals) (L:=L) (d:=d) (K:=100001000060) (by grind [tI,fL,dS,bV]) L.length;grind
end
theorem oi:(Ce ze u z1 o y).size=ze.size+u.size+z1.size+o.size+y.size+12:=by unfold Ce;simp[ByteArray.size_append];have a:(⟨#[10]⟩:Vq).size=1:=rfl;have b:(⟨#[32,36,112,32]⟩:Vq).size=4:=rfl;have c:(⟨#[32,36,61,32]⟩:Vq).size=4:=rfl;have d:(⟨#[32,36,46]⟩:Vq).size=3:=rfl;omega
section
variable {T z:Vq} {l:List Q} {kf kg:Nat}
end
theorem LR(k:Bk)(a g p:Vq)(v y:Int):(gT k a g p v y).goal=k.goal/\(gT k a g p v y).packed=k.packed/\(gT k a g p v y).z=k.z/\(gT k a g p v y).Z7.length=k.Z7.length+1/\(gT k a g p v y).verdicts.length=k.verdicts.length+1/\(gT k a g p v y).whys.length=k.whys.length+1:=by grind [gT,lF,lE,lD]
end Go.Proofs.YtnbalopedcgpcaaGreat

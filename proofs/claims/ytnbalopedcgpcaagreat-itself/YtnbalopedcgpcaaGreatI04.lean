import Derived.Test.YtnbalopedcgpcaaGreatI03
namespace Go.Proofs.YtnbalopedcgpcaaGreat
open Go.RowKit Tryz
open Value IntKind Ending
set_option linter.all false
set_option maxHeartbeats 0
variable{m:Db}{T M yc zz yz:Nat}{f o B:World}{y1:Option Nat}{z4 y4:List Value}{k c yt:Nat->Hd}{y2:Vu}{yu:Fs}{yv:List Bool}{y5 y7:Vq}{q:List Q}{ys:Nat->Bool}{y8:Hd}{zU:Vs}(z p zg g x y H:Nat)(l:Fs)(z8:List Value)(i:List Bool)(z6:List Value)(z9:Vq)(I:List Q)(z7:Nat->Hd)(y9 zc:Vq)(yl yd ze:Int)(yr:Bool)(u:Q)(zn zs:Hd)(z5:Vs)(A:Vq)(D:World)(x0 x3 x4 x5:Value)(y0 s:Nat)(yg y3:Option Nat)
structure mM(d:Db)(m:Nat):Prop where
  ZQ:d.ZQ.length<=m
  ZK:d.ZK.length+d.ZI.length<=m
  ZL:d.ZL.length+d.ZI.length<=m
  ZR:d.ZR.length+d.ZI.length<=m
  ZU:d.ZU.length+d.ZI.length<=m
  Z6:d.Z6.length<=m
  ZZ:d.ZZ.length<=m
  ZT:d.ZT.length<=m
  inner:∀p,p∈d.Z6->p.1<=m/\p.2<=m
  same:d.rbl.length=d.Z6.length
  recs:∀x,x∈d.rbl->x<=d.ZZ.length
theorem mM.small{N:Nat}(h:mM m T)(b:T<=N):gF m N/\Ep m N :=
  ⟨⟨by have:=h.ZQ;omega,by have:=h.ZK;omega,by have:=h.ZL;omega,by have:=h.ZR;omega,by have:=h.ZU;omega,by have:=h.Z6;omega,by have:=h.ZZ;omega,by have:=h.Z6;have:=h.same;omega,by have:=h.ZK;omega,by have:=h.ZT;omega⟩,
   ⟨λp a=>by have:=h.inner p a;omega,h.same,h.recs⟩⟩
theorem mM.mono{m':Nat}(h:mM m T)(b:T<=m'):mM m m' :=
  ⟨by have:=h.ZQ;omega,by have:=h.ZK;omega,by have:=h.ZL;omega,by have:=h.ZR;omega,by have:=h.ZU;omega,by have:=h.Z6;omega,by have:=h.ZZ;omega,by have:=h.ZT;omega,λp a=>by have:=h.inner p a;omega,h.same,h.recs⟩
theorem mM.empty:mM bK 0:=by refine⟨?_,?_,?_,?_,?_,?_,?_,?_,?_,?_,?_⟩ <;> simp[bK]
theorem mM.plain(h:mM m T)(k:Int)(l:Vq)(b:Bool):mM { m with Z3:=k,Z5:=l,ZM:=b } T:=⟨h.ZQ,h.ZK,h.ZL,h.ZR,h.ZU,h.Z6,h.ZZ,h.ZT,h.inner,h.same,h.recs⟩
theorem sx:(dy I s).length=I.length:=kK I s I.length
theorem mM.declare(h:mM m T)(p:Pl):mM { cG m p with Z3:=0,Z5:=⟨#[]⟩,ZI:=[],ZM:=false,ZT:=[] } (T+1):=by have d:=h.ZK;have e:=h.ZL;have f:=h.ZR;have g:=h.ZU;have a:=h.mono (Zd T);unfold cG;split;{exact⟨a.ZQ,by grind,by grind,by grind,by grind,a.Z6,a.ZZ,by simp,a.inner,a.same,a.recs⟩};{split;{have:=Hh m.ZL (m.ZI.take m.ZI.length);simp[List.take_length]at this;exact⟨a.ZQ,by simp[fp];omega,by simp[fp];omega,by simp[fp];omega,by simp[fp];omega,a.Z6,a.ZZ,by simp,a.inner,a.same,a.recs⟩};{unfold eA rP;have:=h.ZZ;split;{next i=>exact⟨a.ZQ,by grind,by grind,by grind,by grind,a.Z6,by grind,by simp,a.inner,a.same,λx b=>by have:=h.recs x b;grind⟩};{exact⟨a.ZQ,by grind,by grind,by grind,by grind,a.Z6,by grind,by simp,a.inner,a.same,λx b=>by have:=h.recs x b;grind⟩}}}
theorem mM.take(h:mM m T)(x:Vq)(o:Pl):mM (aO m x o).2 (T+1):=by (have a:=h.mono (Zd T);have b:=λk=>a.plain k m.Z5 m.ZM;have r:=h.ZQ;have s:=h.ZK;have t:=h.ZL;have u:=h.ZR;have v:=h.ZU;have w:=h.Z6;have i:mM (bM m x).2 (T+1):=by unfold bM;split;{exact a};{split;{exact a};{split;{exact a};{exact⟨by grind,a.ZK,a.ZL,a.ZR,a.ZU,a.Z6,a.ZZ,a.ZT,a.inner,a.same,a.recs⟩}}});(have g:mM (aX m x).2 (T+1):=by unfold aX;split;{exact b 2};{split;{exact b 3};{split;{exact b 4};{split;{exact b 5};{exact a}}}});(have f:mM (aE m x).2 (T+1):=by unfold aE;split;{refine⟨a.ZQ,a.ZK,a.ZL,a.ZR,a.ZU,by grind,a.ZZ,a.ZT,?_,by simp[h.same],?_⟩;{intro p j;simp[List.mem_append,List.mem_singleton]at j;rcases j with j | rfl;{exact a.inner p j};omega};{intro y c;simp[List.mem_append,List.mem_singleton]at c;rcases c with c | rfl;{exact h.recs y c};simp}};{split;{split;{exact a};{next p j => (unfold fB;have n:m.rbl≠[]:=by intro e;have:=h.same;grind);have⟨y,c⟩:∃y,m.rbl.getLast?=some y:=⟨_,YT n⟩;rw[c];refine⟨a.ZQ,a.ZK,a.ZL,?_,?_,?_,?_,a.ZT,?_,?_,?_⟩;{grind [dO]};{grind [dO]};{grind [dO]};{show(dy m.ZZ y).length<=_;rw[sx];exact a.ZZ};{intro q l;simp[dO]at l;exact a.inner q (YU _ l)};{simp[dO,List.length_dropLast,h.same]};{intro q l;show q<=(dy m.ZZ y).length;rw[sx];exact h.recs q (YU _ l)}}};{split;{split;{exact a};{exact b 7}};{split;{exact b 8};{split;{exact b 1};{split;{exact a};{exact i}}}}}});(have d:mM (lm m o).2 (T+1):=by unfold lm;split;{exact a};{split;{exact a};{exact h.declare o}});unfold aO;split;{exact f};{split;{exact g};{split;{exact d};{split;{unfold cE;split;{exact a};{exact a.plain m.Z3 m.Z5 true}};{split;{exact a};{split;{exact⟨a.ZQ,a.ZK,a.ZL,a.ZR,a.ZU,a.Z6,a.ZZ,by have:=h.ZT;grind,a.inner,a.same,a.recs⟩};{split;{exact⟨a.ZQ,by grind,by grind,by grind,by grind,a.Z6,a.ZZ,a.ZT,a.inner,a.same,a.recs⟩};{exact a}}}}}}}
def SG(fs:Fs)(bg:List Bool)(j:Nat):Nat:=if bg.getD j true=true then 0 else(aw fs j).size+2
def fP(fs:Fs)(bg:List Bool):Nat:=SG fs bg 0+SG fs bg 1+SG fs bg 2+SG fs bg 3
theorem zb(e:i.length=4)(f:i.getD s true=false):fP l (i.set s true)+(aw l s).size+2=fP l i:=by
  match i,e with
  | [a,b,c,d],_ =>
    match s with
    | 0=>grind [fP,SG]
    | 1=>grind [fP,SG]
    | 2=>grind [fP,SG]
    | 3=>grind [fP,SG]
    | s+4=>grind
def Kin(fs:Fs)(bg:List Bool)(m:Nat)(r:Ss):Prop :=
  r.2.1.length=4/\fP fs r.2.1<=fP fs bg/\∃m',mM r.2.2 m'/\m'+fP fs r.2.1<=m+fP fs bg
theorem GX(i:∀j a d m,a.length=4->mM d m->Kin l a m (dz l s j a d))(x k:Nat)(a:List Bool)(d:Db)(m:Nat)(n:k<=(aw l x).size)(f:a.length=4)(e:mM d m)(o:aG (au (aw l x) k).1=true) :
    Kin l a (m+1) (ii l s x k a d).1/\k<(ii l s x k a d).2/\(ii l s x k a d).2<=(aw l x).size:=by have g:=fG (aw l x) k n;have b:=g.2.2 o;unfold ii jX;split;{unfold pL;split;{exact⟨⟨f,Vy _,m,e,by simp only;omega⟩,b,g.2.1⟩};{next j u p => have c:=i j a d m f e;refine⟨⟨c.1,c.2.1,?_⟩,?_⟩;{have⟨q,r,t⟩:=c.2.2;grind};grind [IQ,fG,aw,au]}};{exact⟨⟨f,Vy _,m+1,e.take ..,by simp⟩,b,g.2.1⟩}
theorem PM(f:Nat):(∀x k a d m,k<=(aw l x).size->a.length=4->mM d m->(cB l f x k a d).2.1.length=4/\fP l (cB l f x k a d).2.1<=fP l a/\∃b,mM (cB l f x k a d).2.2 b/\b+fP l (cB l f x k a d).2.1<=m+((aw l x).size-k)+fP l a) /\
    (∀j a d m,a.length=4->mM d m->Kin l a m (dz l f j a d)):=by
  have g:∀f,(∀x k a d m,k<=(aw l x).size->a.length=4->mM d m->(cB l f x k a d).2.1.length=4/\fP l (cB l f x k a d).2.1<=fP l a/\∃b,mM (cB l f x k a d).2.2 b/\b+fP l (cB l f x k a d).2.1<=m+((aw l x).size-k)+fP l a) ->
      (∀j a d m,a.length=4->mM d m->Kin l a m (dz l f j a d)):=by
    intro f h j a d m e c;unfold dz;split
    · exact⟨e,Vy _,m,c,Vy _⟩
    · next w =>
      have i:a.getD j true=false:=(by grind);have y:=zb l a j e i;have:=h j 0 (a.set j true) d m (WD _) (by grind) c;refine⟨this.1,by omega,?_⟩
      grind
  induction f with
  | zero =>
    (grind [aw,cB,fP])
  | succ f p =>
    (have v:∀x k a d m,k<=(aw l x).size->a.length=4->mM d m->(cB l (f+1) x k a d).2.1.length=4/\fP l (cB l (f+1) x k a d).2.1<=fP l a/\∃b,mM (cB l (f+1) x k a d).2.2 b/\b+fP l (cB l (f+1) x k a d).2.1<=m+((aw l x).size-k)+fP l a:=by intro x k a d m q e c;cases o:aG (au (aw l x) k).1 with|true=>{have⟨⟨s,E,r,t,F⟩,G,u⟩:=GX l f p.2 x k a d m q e c o;cases n:((ii l f x k a d).1.1.1==0) with|true=>rw[Lg l f x k a d o n];have⟨A,B,z,C,D⟩:=p.1 x (ii l f x k a d).2 (ii l f x k a d).1.2.1 (ii l f x k a d).1.2.2 r u s t;grind|false=>grind [wY]}|false=>by_cases n:(au (aw l x) k).1.Z8=true/\eP d=false;{grind [CP]};grind [yC]);(grind)
theorem Ap(k:Nat)(a:A.size<=1024):(bj A k).1.text.size<=1024:=by unfold bj;generalize A.size-k+1=f;induction f generalizing k with|zero=>simp[bY,ByteArray.size]|succ f b=>rw[bY];split;{split;{simp[ByteArray.size]};grind};{split;{simp[ByteArray.size]};grind [rn]}
theorem mz(k:Nat)(a:A.size<=1024):(au A k).1.text.size<=1024:=by unfold au;generalize A.size-k+1=f;induction f generalizing k with|zero=>simp[cT,ByteArray.size]|succ f b=>grind [cT,Ap,rn]
structure Rw where
 Z5:Vq
 ZO:Int
 why:Int
 at_:Pl
def kF(r:Rw):List Value:=[an r.Z5,J r.ZO,J r.why,an r.at_.Z9,J r.at_.Zaa,J r.at_.Zab]
def iK(l:List Rw):List Value:=l.flatMap kF
def rowR(l:List Rw):fY:=⟨69,6,l.length,iK l⟩
def cQ:Pl:=⟨⟨#[]⟩,0,0⟩
def nc:Rw:=⟨⟨#[]⟩,0,0,cQ⟩
theorem NL(l:List Rw)(s:Rw):(⟨(rowR l).e,(rowR l).size,(rowR l).n+1,(rowR l).xs++kF s⟩:fY)=rowR (l++[s]):=by simp[rowR,iK]
theorem LL(s:Rw):∀u∈kF s,u.oneCell'=true:=by intro u a;simp only[kF,List.mem_cons,List.not_mem_nil,or_false]at a;rcases a with rfl | rfl | rfl | rfl | rfl | rfl <;> rfl
theorem zaz:(prog.info? 69).map (λi=>(i.zero,i.size,i.bytes))=some (some (agg #[cL,J 0,J 0,cL,J 0,J 0]),6,64):=by kernel_rfl
theorem GL(l:List Rw):(iK l).length=l.length*6:=by induction l with|nil=>rfl|cons x r a=>have e:iK (x :: r)=kF x++iK r:=rfl;rw[e,Vx,a];simp[kF];omega
theorem DH(l:List Rw)(k:Nat)(b:k<l.length)(j:Nat)(a:j<6):(iK l)[k*6+j]?=(kF l[k])[j]?:=by induction l generalizing k with|nil=>grind|cons s r c=>{have e:iK (s :: r)=kF s++iK r:=rfl;rw[e];cases k with|zero=>grind [kF]|succ k=>grind [kF]}
def gK(p:Pl):Prop:=-1000000000<=p.Zaa/\p.Zaa<=1000000000
theorem nZ{a:Array Value}{t:TypeId}{L:List Rw}(h:f.heap[T]?=some (aM a t))(g:∀(j:Nat) v,(iK L)[j]?=some v->a[j]?=some v)(k:Nat)(d:k<L.length) :
  cM f T (k*6) (an L[k].Z5)/\cM f T (k*6+1) (J L[k].ZO)/\cM f T (k*6+2) (J L[k].why)/\cM f T (k*6+3) (an L[k].at_.Z9)/\cM f T (k*6+4) (J L[k].at_.Zaa)/\cM f T (k*6+5) (J L[k].at_.Zab):=by have c:=λj (b:j<6) v (e:(kF L[k])[j]?=some v)=>(ar h (k*6+j)).trans (g _ _ ((DH L k d j b).trans e));exact⟨c 0 (by omega) _ rfl,c 1 (by omega) _ rfl,c 2 (by omega) _ rfl,c 3 (by omega) _ rfl,c 4 (by omega) _ rfl,c 5 (by omega) _ rfl⟩
def ge:Option Nat->Nat->Value
 | none,_=>Y none 0 0
 | some g,n=>Y (some (aC g)) n n
def fd(w:World):Option Nat->List Rw->Prop
 | none,L=>L=[]
 | some g,L=>0<L.length/\w.heap[g]?=some (aM (iK L).toArray 69)
theorem fd.Z0{L:List Rw}{S:Vu}(h:fd f y1 L)(k:aa S f o)(a:∀g,y1=some g->g∉S):fd o y1 L:=by cases y1 with|none=>exact h|some g=>exact⟨h.1,k.get h.2 (a g rfl)⟩
theorem fd.ZN{L:List Rw}(h:fd f y1 L)(k:aW f o):fd o y1 L:=h.Z0 k (by simp)
theorem fd.lt{L:List Rw}(h:fd f y1 L)(g:Nat)(e:y1=some g):g<f.heap.size:=by subst e;exact am h.2
structure Et(L:List Rw):Prop where
 len:L.length<=100000
 Zaa:∀r∈L,gK r.at_
theorem GM(c:Int)(w:World)(b:-1000000000<=ze/\ze<=1000000000) :
  bF 86 #[agg #[an y9,J yl,J yd,an zc,J ze,J c],agg #[an y9,J yl,J yd,an zc,J ze,J c],J 0] w (mU (bool true) w):=by (have d:IntKind.i64.wrap (ze+0)=ze:=by rw[WQ];omega);cases a:(zc.toList == []);all_goals(go_enter func86,ntmps86;go_wp2;go_ret;exact⟨rfl,((aa.refl _ _).alloc _).alloc _⟩)
set_option maxRecDepth 100000
theorem rX(L:List Rw)(w:World)(a b:Array Value)(O P:TypeId)(l:w.heap[y]?=some (aM a O))(m:w.heap[H]?=some (aM b P))(T:∀(j:Nat) v,(iK L)[j]?=some v->a[j]?=some v)(U:∀(j:Nat) v,(iK L)[j]?=some v->b[j]?=some v)(V:L.length<=100000)(K:∀r∈L,gK r.at_) :
  bF 63 #[Y (some (aC y)) L.length y0,Y (some (aC H)) L.length s,J 0] w (mU (bool true) w):=by have I:=am l;have yE:=am m;go_enter func63,ntmps63;go_wp2;go_loopg [7,8] L.length (λg i _ wr=>∃k:Nat,k<=L.length/\g=L.length-k/\i=J k/\aW w wr);{exact⟨0,by omega,by omega,rfl,aa.refl _ _⟩};obtain⟨k,X,W,rfl,d⟩:=hrel;by_cases c:k<L.length;{obtain⟨o,p,q,t,u,x⟩:=nZ (d.get l (by simp)) T k c;obtain⟨z,A,B,C,D,E⟩:=nZ (d.get m (by simp)) U k c;have n:=K L[k] (VZ c);have hs:=d.size;generalize L[k]=r at *;obtain⟨M,R,S,⟨G,N,F⟩⟩:=r;simp only[gK]at o p q t u x z A B C D E n;go_upto_region 6 with fail;go_region_with (go_at_call 86;refine gO (GM M G R S N F _ n) λw2 f=>?_);all_goals(have e:=d.trans ((aa.refl [] wr).drew.trans f);go_wp2;go_roundg (L.length-(k+1));{exact⟨k+1,by omega,rfl,by go_num,e⟩};omega)};{go_wp2;go_ret;exact⟨rfl,d⟩}
set_option maxRecDepth 512
theorem oY(a b:Vt)(c d:Nat)(w:World) :
  bF 63 #[Y a 0 c,Y b 0 d,J 0] w (mU (bool true) w):=by go_enter func63,ntmps63;go_wp2;refine Xw 1 ?_;rw[XP];go_wp2;go_ret;exact⟨rfl,aa.refl _ _⟩
theorem ud(L:List Rw)(w:World)(a:fd w yg L)(b:fd w y3 L)(d:Et L) :
  bF 63 #[ge yg L.length,ge y3 L.length,J 0] w (mU (bool true) w):=by cases yg with|none=>{have c:L=[]:=a;subst c;cases y3 with|none=>exact oY _ _ _ _ _|some g=>exact absurd b.1 (by simp)}|some e=>{cases y3 with|none=>have c:L=[]:=b;subst c;exact absurd a.1 (by simp)|some f=>exact rX e f _ _ L w _ _ _ _ a.2 b.2 (λj v h=>by simpa using h) (λj v h=>by simpa using h) d.len d.Zaa}
theorem xJ(L M:List Rw)(w:World)(c:fd w yg L)(l:fd w y3 (L++M))(q:Et (L++M)) :
  bF 56 #[ge yg L.length,ge y3 (L++M).length] w (mU (bool true) w):=by
 have a:=q.len;have g:(L++M).length=L.length+M.length:=Vx;cases yg with
 | none =>
  have i:L=[]:=c;subst i;cases y3 with
  | none =>
   go_enter func56,ntmps56;unfold ge;go_wp2_with fail;refine(oY _ _ _ _ _).mono ?_;rintro e s ⟨rfl,b⟩;go_wp2;go_ret;exact⟨rfl,b⟩
  | some k =>
   go_enter func56,ntmps56;unfold ge;simp only[List.nil_append]at a ⊢;generalize M.length=n at *;go_wp2_with fail;refine(oY _ _ _ _ _).mono ?_;rintro e s ⟨rfl,b⟩;go_wp2;go_ret;exact⟨rfl,b⟩
 | some y =>
  cases y3 with
  | none =>
       have i:L++M=[]:=l;have:L.length=0:=(by rw[(Yg.1 i).1];rfl);have:=c.1;omega
  | some k =>
   have t:=λu x=>rX y k u x L w _ _ _ _ c.2 l.2 (λj v h=>by simpa using h) (λj v f=>by
    have o:=(VT.1 f).1;unfold iK at f o ⊢;rw[WK];simp only[List.getElem?_toArray];rw[V0 o];exact f) (by omega) (λr z=>q.Zaa r (Wn _ z))
   have d:Z _:=t;have p:=c.1;rw[g]at a ⊢;generalize L.length=n at *;generalize M.length=m at *;go_enter func56,ntmps56;unfold ge;go_wp2_with fail;refine(d _ _).mono ?_;rintro e s ⟨rfl,b⟩;go_wp2;go_ret;exact⟨rfl,b⟩
theorem mV :
  bF 138 #[agg #[an y9,J yl,bool yr,an zc,J yd,J ze]] D (mU (agg #[J (if yr=true then 7 else yl),an zc,J yd,J ze]) D):=by cases yr;{go_enter func138,ntmps138;go_wp2;exact VV (v:=agg #[J yl,an zc,J yd,J ze]) (by simp[results,results138,go_sem]) rfl ⟨rfl,((aa.refl ..).alloc _).alloc _⟩};{go_enter func138,ntmps138;go_wp2;exact VV (v:=agg #[J 7,an zc,J yd,J ze]) (by simp[results,results138,go_sem]) rfl ⟨rfl,((aa.refl ..).alloc _).alloc _⟩}
def eY(v:Nat)(bg:List Bool):List Value:=bS v :: bg.map bool
theorem jf(h:i.length=4):(eY H i).length=5:=by simp[eY,h]
theorem ba.pre{b t:Nat}{post:List Value}(h:ba f b t z4 post m k)(i:Nat)(a:i<z4.length)(u:Value) :
  ba (f.setCell (aq b i) u) b t (z4.set i u) post m k/\aj b f k (f.setCell (aq b i) u) k:=by refine⟨⟨?_,?_,h.apart,h.off⟩,(fq.refl ..).setCell (by simp) _,by grind⟩;{rw[ab h.Z1,WY,List.set_append_left _ _ a]};{intro j;refine(h.Zad j).ZS (λd c=>VN _ _ _ _ ?_);rintro rfl;exact h.off j c}
theorem ba.preCell(h:ba f T M z4 y4 m k)(i:Nat)(a:i<z4.length):f.cell? (aq T i)=z4[i]?:=by rw[ar h.Z1];grind
def gE(b sp:Nat)(w:World)(H:Nat->Hd)(w':World)(H':Nat->Hd):Prop :=
 fq (λk=>k=b∨k=sp∨eD H k) w w'/\∀k,eD H' k->eD H k∨w.heap.size<=k
theorem aj.ZS{w':World}(t:aj T f k w' c):gE T s f k w' c :=
 ⟨⟨t.1.os,t.1.tape,t.1.output,t.1.size,λb a d=>t.1.block b a (by grind)⟩,t.2⟩
theorem gE.trans{w1:World}(a:gE T M f k w1 c)(b:gE T M w1 c o yt):gE T M f k o yt:=by refine⟨⟨b.1.os.trans a.1.os,b.1.tape.trans a.1.tape,b.1.output.trans a.1.output,V9 a.1.size b.1.size,?_⟩,?_⟩;{intro d g j;rw[<-a.1.block d g j];refine b.1.block d (VW g a.1.size) ?_;rintro (e | e | i);{omega};{omega};{rcases a.2 d i with h | h;{grind};{omega}}};{intro d g;rcases b.2 d g with h | h;{exact a.2 d h};{exact VH (V9 a.1.size h)}}
theorem gE.refl(a:Nat->Hd):gE y H D a D a:=⟨fq.refl ..,λ_ b=>VR b⟩
theorem gE.ZN(a:gE T M f k o c)(b:aW o B):gE T M f k B c :=
 a.trans ⟨b.toP (by simp),by grind⟩
theorem gE.first(b:aW f o)(a:gE T M o k B c):gE T M f k B c :=
 gE.trans ⟨b.toP (by simp),by grind⟩ a
theorem gE.scan(a:gE T M f k o c)(b:aa [M] o B):gE T M f k B c :=
 a.trans ⟨b.toP (by simp),by grind⟩
theorem gE.beyond(a:gE T M f k o c)(b:aa y2 o B)(g:∀x,x∈y2->f.heap.size<=x):gE T M f k B c :=
 ⟨⟨b.os.trans a.1.os,b.tape.trans a.1.tape,b.output.trans a.1.output,V9 a.1.size b.size,λi d e=>by
  rw[<-a.1.block i d e];exact b.block i (VW d a.1.size) (by grind)⟩,a.2⟩
theorem gE.fresh(a:gE T M f k o c)(F:Nat)(d:F<f.heap.size)(e:¬eD k F):¬eD c F:=by intro b;rcases a.2 F b with h | h;{grind};{omega}
theorem aj.fresh(a:aj T f k o c)(F:Nat)(d:F<f.heap.size)(e:¬eD k F):¬eD c F:=by intro b;rcases a.2 F b with h | h;{grind};{omega}
theorem jc{w:World}{r:Nat}:aa [r] w ((((w.setCell (aC r) x0).setCell (aq r 1) x3).setCell (aq r 2) x4).setCell (aq r 3) x5) :=
 ((((aa.refl ..).sl1 _).sl1 _).sl1 _).sl1 _
theorem JT(a b:Value):aa [T] f ((((((f.setCell (aC T) x0).setCell (aq T 1) x3).setCell (aq T 2) x4).setCell (aq T 3) x5).setCell (aq T 4) a).setCell (aq T 5) b) :=
 ((((((aa.refl ..).sl1 _).sl1 _).sl1 _).sl1 _).sl1 _).sl1 _
def bJ:Array Value:=#[J 0,cL,J 0,J 0]
theorem cP(h:f.heap[T]?=some (aM bJ 85)) :
  cM f T 0 (J 0)/\cM f T 1 (cL)/\cM f T 2 (J 0)/\cM f T 3 (J 0):=by refine⟨?_,?_,?_,?_⟩ <;> exact ot h rfl
theorem nI{F:Nat}(D:ba o T M z4 y4 m c)(b:aj T f k o c)(a:f.heap.size<=F)(j:T≠F)(l:¬eD c F)(d e g i:Value) :
  ba ((((o.setCell (aC F) d).setCell (aq F 1) e).setCell (aq F 2) g).setCell (aq F 3) i) T M z4 y4 m c /\
  aj T f k ((((o.setCell (aC F) d).setCell (aq F 1) e).setCell (aq F 2) g).setCell (aq F 3) i) c:=by refine⟨D.Z0 (jc ..) (by grind) (by grind),?_,b.2⟩;exact(((b.1.setCell (VH a) _).setCell (VH a) _).setCell (VH a) _).setCell (VH a) _
set_option maxRecDepth 100000
theorem uP(D:i.length=4)(d:Db)(q:Nat->Hd)(sp:Value)(j n:Vq)(l c:Int)(w:World)(h:ba w x y (eY H i) [] d q)(hs:gF d 10000000)(hx:j.size<=1073741824)(hi:Ep d 100000000)(hn:(j.toList == [36,91])=false) :
  bF 136 #[bS x,sp,agg #[an j,J 0,bool false,an n,J l,J c]] w λe g =>
   e=dw (iA (if((aO d j ⟨n,l,c⟩).1==0)=true then cD else((aO d j ⟨n,l,c⟩).1,⟨n,l,c⟩))) /\
   ∃O,ba g x y (eY H i) [] (aO d j ⟨n,l,c⟩).2 O/\aj x w q g O:=by
 have af:=h.lt;have C:=λ(g:World) (h':ba g x y (eY H i) [] d q)=>RT x y 5 (eY H i) [] d q j n l c g h' (jf H i D) hs hx hi;unfold iw at C;have u:Z _:=C;clear C;generalize aO d j ⟨n,l,c⟩=td at *;have⟨r,d'⟩:=td;simp only at u;have⟨W,B⟩:∃W,W=((w.alloc (aM #[an j,J 0,bool false,an n,J l,J c] 223)).alloc (aM #[J 0,cL,J 0,J 0] 85)):=⟨_,rfl⟩;(have T:aW w W:=by rw[B];exact((aa.refl [] w).alloc _).alloc _);(have P:=h.ZN T;have S:W.heap[w.heap.size]?=some (aM #[an j,J 0,bool false,an n,J l,J c] 223):=by rw[B];exact(bN.alloc _).gt (VB ..));(have R:W.heap[w.heap.size+1]?=some (aM bJ 85):=by rw[B];have:=VB (w.alloc (aM #[an j,J 0,bool false,an n,J l,J c] 223)) (aM #[J 0,cL,J 0,J 0] 85);simpa [bJ] using this);(have t:Z (∀k,w.heap.size<=k->¬(k=x∨eD q k)):=by rintro k hk (e | E);{omega};{have:=h.inlt E;omega});have U:Z _:=B.symm;clear B h;have⟨i0,_,_,i3,i4,i5⟩:=zcg S
 have z:=(show Z _ from λ(a:World) (b:Nat->Hd) (v:ba a x y (eY H i) [] d' b) (f:aj x W.drew q a b) (V X a2 a3:Value) =>
  nI v ((f.first (aa.refl [] W).drew).first T) (F:=w.heap.size+1) (by omega) (by omega) (f.fresh (w.heap.size+1) (by exact am R) (λE=>t (w.heap.size+1) (by omega) (VH E))) V X a2 a3)
 have s:Z _:=λ(a:World) (b:Nat->Hd) (f:aj x W.drew q a b)=>(show _/\_ from⟨f.1.get (by exact S) (t _ (Vy _)),f.1.get (by exact R) (t _ (by omega))⟩);(have N:∀(a:World) (b:Nat->Hd) (_:aj x W.drew q a b),a.cell? (aC w.heap.size)=some (an j)/\a.cell? (aq w.heap.size 3)=some (an n)/\a.cell? (aq w.heap.size 4)=some (J l)/\a.cell? (aq w.heap.size 5)=some (J c):=by intro a b f;have ad:=(s a b f).1;grind [ot]);have A:Z _:=N;clear N;go_enter func136,ntmps136;go_upto_region 1 with fail;rw[U.o];go_upto_region 3 with fail;cases hr:(r==0)
 ·(have G:(r != 0)=true:=by grind);go_region_held3 (λg=>g.cell? (aC w.heap.size)=some (an j)/\g.cell? (aq w.heap.size 3)=some (an n)/\g.cell? (aq w.heap.size 4)=some (J l)/\g.cell? (aq w.heap.size 5)=some (J c)) (go_keep) (first | (go_at_call 155;refine(u _ (by exact P.ZN bN.drew)).mono ?_;rintro e a ⟨rfl,b,v,f⟩;have⟨r0,r3,r4,r5⟩:=A a b f))
  all_goals
   have p:=(s a b f).2;have m:Z _:=z a b v f;have⟨I,K,L,M⟩:=cP p;have ag:=ay p;go_wp2;exact VV (v:=agg #[J r,an n,J l,J c]) (by simp[results,results136,go_sem,I,K,L,M]) rfl
    ⟨rfl,b,(m _ _ _ _).1,(m ..).2⟩
 ·(have G:(r != 0)=false:=by grind);go_region_held3 (λg=>g.cell? (aC w.heap.size)=some (an j)/\g.cell? (aq w.heap.size 3)=some (an n)/\g.cell? (aq w.heap.size 4)=some (J l)/\g.cell? (aq w.heap.size 5)=some (J c)) (go_keep) (first | (go_at_call 155;refine(u _ (by exact P.ZN bN.drew)).mono ?_;rintro e a ⟨rfl,b,v,f⟩;have⟨r0,r3,r4,r5⟩:=A a b f))
  all_goals
   have p:=(s a b f).2;have m:Z _:=z a b v f;have⟨I,K,L,M⟩:=cP p;have ag:=ay p;go_wp2;exact VV (v:=agg #[J 0,cL,J 0,J 0]) (by simp[results,results136,go_sem,I,K,L,M]) rfl
    ⟨rfl,b,(m ..).1,(m ..).2⟩
def js(b v:Nat)(fs:Fs)(f j:Nat)(bg:List Bool)(d:Db)(H:Nat->Hd)(w:World):Prop :=
 bF 112 #[bS b,J j] w λe w'=>e=dw (iA (dz fs f j bg d).1)/\∃H',ba w' b 186 (eY v (dz fs f j bg d).2.1) [] (dz fs f j bg d).2.2 H'/\aj b w H w' H'
theorem jR{F:Nat}(D:ba o T M z4 y4 m c)(g:gE T yc f k o c)(i:f.heap.size<=F)(j:T≠F)(l:¬eD c F)(a b d e:Value) :
  ba ((((o.setCell (aC F) a).setCell (aq F 1) b).setCell (aq F 2) d).setCell (aq F 3) e) T M z4 y4 m c /\
  gE T yc f k ((((o.setCell (aC F) a).setCell (aq F 1) b).setCell (aq F 2) d).setCell (aq F 3) e) c :=
 ⟨D.Z0 (jc ..) (by grind) (by grind),g.beyond (jc ..) (by grind)⟩
theorem rS:iA (kj z9 y9 ⟨zc,ze,yr,s⟩)=agg #[J (if yr=true then 7 else ze),an z9,J (aV y9 s),J (bZ y9 s)]:=rfl
structure sV(w w':World)(b v tt sp z:Nat)(fs:Fs)(more:List Value)(bg:List Bool)(d:Db)(H:Nat->Hd)(n s:Vq):Prop where
 D:ba w' b 186 (eY v bg) [] d H
 TB:cR w' v tt fs more
 SC:cy w' sp n s z
 F:w'.heap[w.heap.size+1]?=some (aM bJ 85)
 M:gE b sp w H w' H
theorem sV.ZN(S:sV f o T M yc zz yz yu z4 yv m k y5 y7)(a:aW o B):sV f B T M yc zz yz yu z4 yv m k y5 y7 :=
 ⟨S.D.ZN a,S.TB.Z0 a (by simp),S.SC.Z0 a (by simp),a.gt S.F,S.M.ZN a⟩
theorem sV.next{b:Nat}(S:sV f o T M yc zz yz yu z4 yv m k y5 y7)(a:aa [zz] o B)(c:cy B zz y5 y7 b)(d:zz≠T)(e:M≠zz)(g:¬eD k zz)(i:zz<f.heap.size):sV f B T M yc zz b yu z4 yv m k y5 y7 :=
 ⟨S.D.Z0 a (by grind) (by grind),S.TB.Z0 a (by grind),c,a.get S.F (by grind),S.M.scan a⟩
theorem Fo(bc:i.length=4)(d:Db)(A:Nat->Hd)(n s:Vq)(v c:Int)(w:World)(h:ba w z 186 (eY p i) [] d A)(hn:cH l y=n)(b3:aw l y=s)(hs:s.size<=1024)(hz:H<=s.size)(av:cy w g n s H)(ht:cR w p zg l z8)(ai:g≠z)(bl:p≠g)(bk:¬eD A g)(RF:Z (∀(j:Nat) (w':World),j<l.length->ba w' z 186 (eY p i) [] d A->cR w' p zg l z8->js z p l x j i d A w')) :
  bF 154 #[bS z,bS g,agg #[an n,J v,J c]] w λe w' =>
   e=dw (iA (pL (dz l x) l y H ⟨n,v,c⟩ i d).1.1)/\∃H',ba w' z 186 (eY p (pL (dz l x) l y H ⟨n,v,c⟩ i d).1.2.1) [] (pL (dz l x) l y H ⟨n,v,c⟩ i d).1.2.2 H'/\gE z g w A w' H' /\
    (((pL (dz l x) l y H ⟨n,v,c⟩ i d).1.1.1==0)=true->cy w' g n s (pL (dz l x) l y H ⟨n,v,c⟩ i d).2):=by
 have⟨W,hW⟩:∃W,W=((w.alloc (aM #[an n,J v,J c] 67)).alloc (aM #[J 0,cL,J 0,J 0] 85)):=⟨_,rfl⟩;(have hK:aW w W:=by rw[hW];exact((aa.refl [] w).alloc _).alloc _);(have cc:=h.lt;have ak:=am av;have D:ba W z 186 (eY p i) [] d A:=h.ZN hK;have SC:cy W g n s H:=av.Z0 hK (by simp);have TB:cR W p zg l z8:=ht.Z0 hK (by simp);have hP:W.heap[w.heap.size]?=some (aM #[an n,J v,J c] 67):=by rw[hW];exact(bN.alloc _).gt (VB ..));(have hF:W.heap[w.heap.size+1]?=some (aM bJ 85):=by rw[hW];have:=VB (w.alloc (aM #[an n,J v,J c] 67)) (aM #[J 0,cL,J 0,J 0] 85);simpa [bJ] using this);(have C:Z (∀k,w.heap.size<=k->¬eD A k):=λk hk hm=>by have:=h.inlt hm;omega);have HW:Z _:=hW.symm;have ca:=am hF;have MK:Z (gE z g w A W A):=(gE.refl z g w A).ZN hK;clear hW h av ht;have G:Z (pL (dz l x) l y H ⟨n,v,c⟩ i d=match IQ l y H ⟨n,v,c⟩ d with | .inl q=>((q,i,d),H) | .inr (j,z')=>(dz l x j i d,z')):=rfl;have B:Z (IQ l y H ⟨n,v,c⟩ d=_):=(show IQ l y H ⟨n,v,c⟩ d=_ from by unfold IQ;rw[hn,b3]);cases ho:eP d
 ·have ax:=fG s H hz;have b6:=mz s H hs;have bo:=fG s (au s H).2 ax.2.1;have bd:=E2 (au s H).1.text l;generalize hr1:au s H=r1 at *;have⟨⟨V,u1,f1,E⟩,z1⟩:=r1;simp only at ax b6 bo bd B;have b7:=mz s z1 hs;generalize hr2:au s z1=r2 at *;have⟨⟨t2,u2,f2,P⟩,z2⟩:=r2;simp only at bo b7 B;rw[ho]at B;have S0:sV w W z p zg g H l z8 i d A n s:=⟨D,TB,SC,hF,MK.o⟩;go_enter func154,ntmps154;go_upto_region 1 with fail;rw[HW.o];go_wp2_with fail;refine(tU z 186 5 (eY p i) [] d A _ D (jf p i bc)).mono ?_;rintro e w1 ⟨rfl,U⟩;subst U;rw[ho];go_wp2_with fail;refine(tQ g H n s _ hs hz SC).mono ?_;rintro e w2 ⟨rfl,X,be⟩;rw[hr1]at X ⊢;simp[fW]at X ⊢;have S2:=S0.next be X ai bl bk ak;have⟨W3,af⟩:∃W3,W3=w2.alloc (aM #[an V,J u1,bool f1,an n,J (aV s E),J (bZ s E)] 223):=⟨_,rfl⟩;(have a8:Z _:=af.symm;have S3:sV w W3 z p zg g z1 l z8 i d A n s:=by rw[af];exact S2.ZN (bN.alloc _));(have I3:jG W3 w2.heap.size n s ⟨V,u1,f1,E⟩:=by rw[af];exact VB ..);clear af S0 S2 X be D TB SC hP hF hK HW hr1;go_upto_region 4 with fail;rw[a8.o];clear a8;have⟨f,m,t,u,a4,a5⟩:=I3.cells;go_wp2_with fail;refine(dI V n u1 (aV s E) (bZ s E) f1 _).mono ?_;rintro e w4 ⟨rfl,ao⟩;have I:=S3.ZN ao;have I4:=I3.Z0 ao (by simp);clear f m t u a4 a5 S3 I3 ao;have⟨f,m,t,u,a4,a5⟩:=I4.cells;have cb:=am I4;have b8:=am I.F;cases U:(u1==0 && !f1)
  ·(have b:Z (pL (dz l x) l y H ⟨n,v,c⟩ i d=((kj n s ⟨V,u1,f1,E⟩,i,d),H)):=by show _=_;rw[G.o,B.o];simp[aG,U]);clear G B;go_wp2_with fail;refine(mV V n u1 (aV s E) (bZ s E) f1 _).mono ?_;rintro e w5 ⟨rfl,b1⟩;have⟨q,hq⟩:∃q:Int,Z ((if f1=true then(7:Int) else u1)=q):=⟨_,rfl⟩
   rw[hq.o];have S:=I.ZN b1;have⟨K,L,N,O⟩:=cP S.F;have a6:=ay S.F;have a:Z _:=(λf m t u=>jR S.D S.M (F:=w.heap.size+1) (by omega) (by omega) (C.o _ (by omega)) f m t u);clear f m t u a4 a5;go_wp2;exact VV (v:=agg #[J q,an n,J (aV s E),J (bZ s E)]) (by simp[results,results154,go_sem,K,L,N,O]) rfl
    ⟨by rw[b.o,rS,hq.o],A,by rw[b.o];exact(a.o ..).1,(a.o ..).2,by
     rw[b.o];grind [kj]⟩
  ·have b4:u1=0:=(by grind);have bv:f1=false:=(by grind);subst b4 bv;cases bt:eW V
   ·have b0:cM w4 z 0 (bS p):=I.D.preCell 0 (by simp[eY]);rcases bd with bh | ⟨j,hj,ah⟩
    ·(have b:Z (pL (dz l x) l y H ⟨n,v,c⟩ i d=(((6,gZ n s E),i,d),H)):=by show _=_;rw[G.o,B.o];grind [aG])
     clear G B;(go_upto_region 8 with (go_at_call 171;refine(fk V _ (by omega)).mono ?_;rintro e w5 ⟨rfl,rfl⟩));go_quiet ((go_at_call 48;exact Wk (nG p zg l z8 V _ (I.ZN (bN.drewN _)).TB)));have S:=I.ZN (bN.drewN nq);rw[bh];have⟨K,L,N,O⟩:=cP I.F;have a6:=ay I.F;have a:Z _:=(λf m t u=>jR S.D S.M (F:=w.heap.size+1) (by omega) (by omega) (C.o _ (by omega)) f m t u);go_wp2;exact VV (v:=agg #[J 6,an n,J (aV s E),J (bZ s E)]) (by simp[results,results154,go_sem,K,L,N,O]) rfl
      ⟨by rw[b.o];rfl,A,by rw[b.o];exact(a.o ..).1,(a.o ..).2,by rw[b.o];simp⟩
    ·(go_upto_region 8 with (go_at_call 171;refine(fk V _ (by omega)).mono ?_;rintro e w5 ⟨rfl,rfl⟩));go_quiet ((go_at_call 48;exact Wk (nG p zg l z8 V _ (I.ZN (bN.drewN _)).TB)));rw[ah];have S:=I.ZN (bN.drewN nq);go_wp2_with fail;refine(tQ g z1 n s _ hs ax.2.1 S.SC).mono ?_;rintro e w6 ⟨rfl,ad,bf⟩;rw[hr2]at ad ⊢;simp[fW]at ad ⊢;have S6:=S.next bf ad ai bl bk ak;have⟨W7,ag⟩:∃W7,W7=w6.alloc (aM #[an t2,J u2,bool f2,an n,J (aV s P),J (bZ s P)] 223):=⟨_,rfl⟩;(have a9:Z _:=ag.symm;have S7:sV w W7 z p zg g z2 l z8 i d A n s:=(by rw[ag];exact S6.ZN (bN.alloc _));have I7:jG W7 w6.heap.size n s ⟨t2,u2,f2,P⟩:=(by rw[ag];exact VB ..);clear ag I S S6 ad bf I4 f m t u a4 a5 b0;(go_upto_region 12 with fail);rw[a9.o];clear a9;have⟨f,m,t,u,a4,a5⟩:=I7.cells;go_wp2_with fail;refine(dI t2 n u2 (aV s P) (bZ s P) f2 _).mono ?_;rintro e w8 ⟨rfl,ap⟩;have T:=S7.ZN ap;have I8:=I7.Z0 ap (by simp);clear f m t u a4 a5 S7 I7 ap;have⟨f,m,t,u,a4,a5⟩:=I8.cells;have bb:=am T.F;have cf:¬((j:Int)<0):=by omega);cases cg:(u2==0 && !f2)
     ·(have b:Z (pL (dz l x) l y H ⟨n,v,c⟩ i d=((kj n s ⟨t2,u2,f2,P⟩,i,d),H)):=by show _=_;rw[G.o,B.o,ah];grind [aG]);clear G B;go_wp2_with fail;refine(mV t2 n u2 (aV s P) (bZ s P) f2 _).mono ?_;rintro e w9 ⟨rfl,b2⟩;have⟨q,hq⟩:∃q:Int,Z ((if f2=true then(7:Int) else u2)=q):=⟨_,rfl⟩
      rw[hq.o];have S9:=T.ZN b2;have⟨K,L,N,O⟩:=cP S9.F;have a6:=ay S9.F;have a:Z _:=(λf m t u=>jR S9.D S9.M (F:=w.heap.size+1) (by omega) (by omega) (C.o _ (by omega)) f m t u);clear f m t u a4 a5;go_wp2;exact VV (v:=agg #[J q,an n,J (aV s P),J (bZ s P)]) (by simp[results,results154,go_sem,K,L,N,O]) rfl
       ⟨by rw[b.o,rS,hq.o],A,by rw[b.o];exact(a.o ..).1,(a.o ..).2,by
        rw[b.o];grind [kj]⟩
     ·have b5:u2=0:=(by grind);have bx:f2=false:=(by grind);subst b5 bx;cases ce:(t2.toList == [36,93])
      ·(have b:Z (pL (dz l x) l y H ⟨n,v,c⟩ i d=(((5,gZ n s P),i,d),H)):=by show _=_;rw[G.o,B.o,ah];grind [aG])
       clear G B;have⟨K,L,N,O⟩:=cP T.F;have a6:=ay T.F;have a:Z _:=(λf m t u=>jR T.D T.M (F:=w.heap.size+1) (by omega) (by omega) (C.o _ (by omega)) f m t u);go_wp2;exact VV (v:=agg #[J 5,an n,J (aV s P),J (bZ s P)]) (by simp[results,results154,go_sem,K,L,N,O]) rfl
        ⟨by rw[b.o];rfl,A,by rw[b.o];exact(a.o ..).1,(a.o ..).2,by rw[b.o];simp⟩
      ·(have b:Z (pL (dz l x) l y H ⟨n,v,c⟩ i d=(dz l x j i d,z2)):=by show _=_;rw[G.o,B.o,ah];grind [aG])
       clear G B;have RJ:=RF.o j w8 hj T.D T.TB;unfold js at RJ;have a7:Z _:=RJ;clear RJ RF;generalize dz l x j i d=R at *;obtain⟨⟨r,pf,pl,pc⟩,b9,d'⟩:=R;simp only[iA]at a7;go_wp2_with fail;refine VP a7.o ?_;rintro e w9 ⟨rfl,H9,D9,T9⟩;have F9:=T9.1.get T.F (by rintro (e | e);omega;exact C.o _ (by omega) e);have bs:cy w9 g n s z2:=T9.1.get T.SC (by grind);have⟨K,L,N,O⟩:=cP F9;have a6:=ay F9;have a:Z _:=(λf m t u=>jR D9 (T.M.trans (T9.ZS g)) (F:=w.heap.size+1) (by omega) (by omega) (T9.fresh _ bb (C.o _ (by omega))) f m t u);have bp:Z _:=(λf m t u=>bs.Z0 (jc (r:=w.heap.size+1) f m t u) (by grind));clear f m t u a4 a5;go_wp2;exact VV (v:=agg #[J r,an pf,J pl,J pc]) (by simp[results,results154,go_sem,K,L,N,O]) rfl
        ⟨by rw[b.o];rfl,H9,by rw[b.o];exact(a.o ..).1,(a.o ..).2,by rw[b.o];exact λ_=>bp.o ..⟩
   ·(have b:Z (pL (dz l x) l y H ⟨n,v,c⟩ i d=(((5,gZ n s E),i,d),H)):=by show _=_;rw[G.o,B.o];simp[aG,bt])
    clear G B;have⟨K,L,N,O⟩:=cP I.F;have a6:=ay I.F;have a:Z _:=(λf m t u=>jR I.D I.M (F:=w.heap.size+1) (by omega) (by omega) (C.o _ (by omega)) f m t u);go_wp2_with (go_at_call 171;refine(fk V _ (by omega)).mono ?_;rintro e w5 ⟨rfl,rfl⟩);exact VV (v:=agg #[J 5,an n,J (aV s E),J (bZ s E)]) (by simp[results,results154,go_sem,K,L,N,O]) rfl
     ⟨by rw[b.o];rfl,A,by rw[b.o];exact(a.o _ _ _ _).1,(a.o ..).2,by rw[b.o];simp⟩
 ·(have b:Z (pL (dz l x) l y H ⟨n,v,c⟩ i d=(((4,⟨n,v,c⟩),i,d),H)):=by show _=_;rw[G.o,B.o,ho];simp);clear G B;have⟨i0,i1,i2⟩:=Cu hP;have⟨K,L,N,O⟩:=cP hF;have a6:=ay hF;have a:Z _:=(λf m t u=>jR D MK.o (F:=w.heap.size+1) (by omega) (by omega) (C.o _ (by omega)) f m t u);go_enter func154,ntmps154;go_upto_region 1 with fail
  rw[HW.o];go_wp2_with fail;refine(tU z 186 5 (eY p i) [] d A _ D (jf p i bc)).mono ?_;rintro e w1 ⟨rfl,U⟩;subst U;rw[ho];go_wp2;exact VV (v:=agg #[J 4,an n,J v,J c]) (by simp[results,results154,go_sem,K,L,N,O]) rfl
   ⟨by rw[b.o];rfl,A,by rw[b.o];exact(a.o ..).1,(a.o ..).2,by rw[b.o];simp⟩
theorem Dx(C:i.length=4)(d:Db)(b:Nat->Hd)(n s t:Vq)(a c:Int)(w:World)(h:ba w z 186 (eY p i) [] d b)(hn:cH l y=n)(U:aw l y=s)(hs:s.size<=1024)(hz:H<=s.size)(m:cy w g n s H)(ht:cR w p zg l z8)(E:g≠z)(af:p≠g)(V:¬eD b g)(X:gF d 10000000)(ad:t.size<=1073741824)(T:Ep d 100000000)(RF:Z (∀(j:Nat) (f:World),j<l.length->ba f z 186 (eY p i) [] d b->cR f p zg l z8->js z p l x j i d b f)) :
  bF 136 #[bS z,bS g,agg #[an t,J 0,bool false,an n,J a,J c]] w λe f =>
   e=dw (iA (jX (dz l x) l y H t ⟨n,a,c⟩ i d).1.1)/\∃G,ba f z 186 (eY p (jX (dz l x) l y H t ⟨n,a,c⟩ i d).1.2.1) [] (jX (dz l x) l y H t ⟨n,a,c⟩ i d).1.2.2 G/\gE z g w b f G /\
    (((jX (dz l x) l y H t ⟨n,a,c⟩ i d).1.1.1==0)=true->cy f g n s (jX (dz l x) l y H t ⟨n,a,c⟩ i d).2):=by
 cases hi:(t.toList == [36,91]);{(have I:jX (dz l x) l y H t ⟨n,a,c⟩ i d=((if((aO d t ⟨n,a,c⟩).1==0)=true then cD else((aO d t ⟨n,a,c⟩).1,⟨n,a,c⟩),i,(aO d t ⟨n,a,c⟩).2),H):=by grind [jX]);rw[I];refine(uP z 186 p i C d b _ t n a c w h X ad T hi).mono ?_;rintro e f ⟨rfl,G,D',T'⟩;exact⟨rfl,G,D',T'.ZS g,λ_=>T'.1.get m (by grind)⟩}
 ·(have I:jX (dz l x) l y H t ⟨n,a,c⟩ i d=pL (dz l x) l y H ⟨n,a,c⟩ i d:=by grind [jX]);rw[I];have⟨W,B⟩:∃W,W=((w.alloc (aM #[an t,J 0,bool false,an n,J a,J c] 223)).alloc (aM #[J 0,cL,J 0,J 0] 85)):=⟨_,rfl⟩;(have K:aW w W:=by rw[B];exact((aa.refl [] w).alloc _).alloc _);(have ai:=h.lt;have ag:=am m;have hI:W.heap[w.heap.size]?=some (aM #[an t,J 0,bool false,an n,J a,J c] 223):=by rw[B];exact(bN.alloc _).gt (VB ..));(have hF:W.heap[w.heap.size+1]?=some (aM bJ 85):=by rw[B];have:=VB (w.alloc (aM #[an t,J 0,bool false,an n,J a,J c] 223)) (aM #[J 0,cL,J 0,J 0] 85);simpa [bJ] using this);(have⟨i0,_,_,i3,i4,i5⟩:=zcg hI;have IC:=Fo z p zg g x y H l z8 i C d b n s a c W (h.ZN K) hn U hs hz (m.Z0 K (by simp)) (ht.Z0 K (by simp)) E af V RF;have u:Z _:=IC;have v:Z (∀k,w.heap.size<=k->¬eD b k):=λk hk hm=>by have:=h.inlt hm;omega);have HW:Z _:=B.symm;clear B IC RF I h;generalize pL (dz l x) l y H ⟨n,a,c⟩ i d=R at *;have⟨⟨⟨r,pf,pl,pc⟩,ah,d'⟩,z'⟩:=R;simp only[iA]at u ⊢;go_enter func136,ntmps136;go_upto_region 1 with fail
  rw[HW.o];go_wp2_with fail;refine VP u ?_;rintro e w2 ⟨rfl,H2,D2,M,D⟩;have A:=M.1.get hF (by rintro (e | e | e);omega;omega;exact v _ (by omega) e);have⟨j0,j1,j2,j3⟩:=cP A;have ak:=ay A;have q:Z _:=(λN O P S=>jR D2 (M.first K) (F:=w.heap.size+1) (by omega) (by omega) (M.fresh _ (am hF) (v _ (by omega))) N O P S);have L:Z _:=(λN O P S hh=>(D hh).Z0 (jc (r:=w.heap.size+1) N O P S) (by grind));clear D i0 i3 i4 i5;go_wp2;exact VV (v:=agg #[J r,an pf,J pl,J pc]) (by simp[results,results136,go_sem,j0,j1,j2,j3]) rfl
   ⟨rfl,H2,(q ..).1,(q ..).2,L _ _ _ _⟩
set_option maxRecDepth 512
theorem FP :
  bF 132 #[agg #[an zc,an A]] D λe a=>∃s,e=dw (bS s)/\D.heap.size<=s/\cy a s zc A 0/\aW D a:=by go_enter func132,ntmps132;go_wp2;go_ret;refine⟨D.heap.size+1,rfl,by omega,?_,((aa.refl _ _).alloc _).alloc _⟩;have:=VB (D.alloc (aM #[an zc,an A] 41)) (aM #[an zc,an A,J 0,J 1,J 1] 242);simpa [cy,mh,aV,bZ] using this
theorem aj.beyond(a:aj T f k o c)(b:aa y2 o B)(g:∀x,x∈y2->f.heap.size<=x):aj T f k B c :=
 ⟨⟨b.os.trans a.1.os,b.tape.trans a.1.tape,b.output.trans a.1.output,V9 a.1.size b.size,λi d e=>by
  rw[<-a.1.block i d e];exact b.block i (VW d a.1.size) (by grind)⟩,a.2⟩
theorem aj.word(a:aj T f k o c)(b:gE T M o c B yt)(l:f.heap.size<=M):aj T f k B yt:=by refine⟨⟨b.1.os.trans a.1.os,b.1.tape.trans a.1.tape,b.1.output.trans a.1.output,V9 a.1.size b.1.size,?_⟩,?_⟩;{intro d g j;rw[<-a.1.block d g j];refine b.1.block d (VW g a.1.size) ?_;rintro (e | e | i);{omega};{omega};{rcases a.2 d i with h | h;{grind};{omega}}};{intro d g;rcases b.2 d g with h | h;{exact a.2 d h};{exact VH (V9 a.1.size h)}}
theorem Nt:(eY H i).set (1+s) (bool true)=eY H (i.set s true):=by unfold eY;rw[Nat.add_comm 1 s,YF,YK]
theorem Gp(h:i.length=4)(a:s<4):(eY H i)[1+s]?=some (bool (i.getD s true)):=by grind [eY]
set_option maxRecDepth 100000
theorem zB(b:i.length=4)(d:Db)(a:Nat->Hd)(w:World)(j:H<4)(h:ba w g 186 (eY x i) [] d a)(c:i.getD H true=true):js g x l y H i d a w:=by
 unfold js dz;rw[VQ c];have f:=h.lt;have e:=h.preCell (1+H) (by grind [jf]);rw[Gp x i H b j,c]at e;go_enter func112,ntmps112;go_wp2;exact VV (v:=agg #[J 0,cL,J 0,J 0]) (by simp[results,results112,go_sem]) rfl
  ⟨rfl,a,h.ZN (bN.alloc _),(aj.refl _ _ _).ZN (bN.alloc _)⟩
theorem AA(cp:∀j,j<l.length->(aw l j).size<=1024)(cu:x≠g)(IH:∀av,av<H->∀(j:Nat) (K:List Bool) (d:Db) (E:Nat->Hd) (w:World) (m:Nat),j<l.length->K.length=4->mM d m->m+fP l K<=9000000->fP l K<=av->ba w g 186 (eY x K) [] d E->cR w x y l z6->¬eD E x->js g x l av j K d E w)(j:Nat)(K:List Bool)(d:Db)(E:Nat->Hd)(w:World)(m:Nat)(hj:j<l.length)(bo:K.length=4)(hB:mM d m)(hm:m+fP l K<=9000000)(hf:fP l K<=H)(h:ba w g 186 (eY x K) [] d E)(ht:cR w x y l z6)(cv:¬eD E x)(hb:K.getD j true=false):js g x l H j K d E w:=by
 unfold js dz;rw[VI (by grind)];have cx:=ht.2;have hs:=cp j hj;have bs:=zb l K j bo hb;have⟨n,hn⟩:∃n,cH l j=n:=⟨_,rfl⟩;have⟨s,af⟩:∃s,aw l j=s:=⟨_,rfl⟩;rw[af]at hs bs;have c4:=h.lt;have cc:=h.free;have dc:=ht.lt;have c1:=h.preCell (1+j) (by grind [jf]);rw[Gp x K j bo (by omega),hb]at c1;have c0:=h.preCell 0 (by simp[eY]);have b7:cM w g 0 (bS x):=c0;clear c0;have P1:=h.pre (1+j) (by grind [jf]) (bool true);rw[Nt]at P1;have⟨L,a7⟩:∃L,K.set j true=L:=⟨_,rfl⟩;(have cf:L.length=4:=by grind);rw[a7]at P1 bs ⊢;clear a7;have⟨W,hW⟩:∃W,W=(w.setCell (aq g (1+j)) (bool true)).alloc (aM #[J 0,cL,J 0,J 0] 85):=⟨_,rfl⟩;(have D1:ba W g 186 (eY x L) [] d E:=by rw[hW];exact P1.1.ZN (bN.alloc _));(have T1:aj g w E W E:=by rw[hW];exact P1.2.ZN (bN.alloc _));(have F1:W.heap[w.heap.size]?=some (aM bJ 85):=by rw[hW];have:=VB (w.setCell (aq g (1+j)) (bool true)) (aM bJ 85);simpa [World.setCell,bJ] using this);(have be:cR W x y l z6:=⟨T1.1.get ht.1 (by grind),ht.2⟩;have ax:Z (∀k,w.heap.size<=k->¬eD E k):=λk hk hm=>by have:=h.inlt hm;omega);(have⟨HW,b3⟩:=yE hW.symm IH;clear P1 hW IH;go_enter func112,ntmps112;go_wp2_with fail;rw[HW.o];clear HW c1 b7 cc ht h;refine(PD x y j l z6 _ be hj).mono ?_;rintro e w2 ⟨rfl,ad⟩;rw[hn,af];go_wp2_with fail;refine(FP n s _).mono ?_;rintro e w3 ⟨sp,rfl,c8,h3,ah⟩;go_wp2_with fail;refine(tQ sp 0 n s _ hs (by omega) h3).mono ?_;rintro e w4 ⟨rfl,h4,ai⟩;have c3:=am F1;have dd:=ad.size;have cF:w.heap.size<sp:=by omega);(have b1:sp≠g:=by omega);(have b2:x≠sp:=by omega);have T4:aj g w E w4 E:=(((T1.ZN ad).ZN ah).beyond ai (by grind));have F4:=ai.get (ah.get (ad.gt F1) (by simp)) (by grind);have D4:ba w4 g 186 (eY x L) [] d E:=((D1.ZN ad).ZN ah).Z0 ai (by grind) (by intro k hk;simp;rintro rfl;exact ax _ (by omega) hk);have bh:cR w4 x y l z6:=((be.Z0 ad (by simp)).Z0 ah (by simp)).Z0 ai (by grind);have cz:=am h4;clear D1 T1 F1 be ad ah ai h3;simp[fW];go_wp2;go_loopg [7] s.size (λgk _ wr=>∃(k av m1:Nat) (b:List Bool) (v:Db) (G:Nat->Hd),k<=s.size/\gk=s.size-k/\b.length=4/\mM v m1/\m1+(s.size-k)+fP l b<=9000000/\(s.size-k)+fP l b+1<=av/\av<=H /\ Z (cB l H j 0 L d=cB l av j k b v)/\cy wr sp n s (au s k).2/\jG wr w4.heap.size n s (au s k).1 /\ wr.heap[w.heap.size]?=some (aM bJ 85)/\ba wr g 186 (eY x b) [] v G/\cR wr x y l z6/\aj g w E wr G/\(¬eD G sp/\¬eD G w4.heap.size/\¬eD G w.heap.size/\¬eD G x));{exact⟨0,H,m,L,d,E,by omega,by omega,cf,hB,by omega,by omega,Vy _,rfl,h4.Z0 (bN.alloc _) (by simp),VB ..,(bN.alloc _).gt F4,D4.ZN (bN.alloc _),bh.Z0 (bN.alloc _) (by simp),T4.ZN (bN.alloc _),ax _ (by omega),ax _ (by omega),ax _ (by omega),cv⟩};have⟨k,av,m1,b,v,G,hk,hg,ao,a5,c7,c5,c6,hR,h5,hI,hF,D,TB,T,bt,bv,M,bd⟩:=hrel;obtain⟨O,rfl⟩:∃O,av=O+1:=⟨av-1,by omega⟩;(clear D4 T4 F4 bh h4;have bx:=fG s k hk;have ct:=mz s k hs;have SK:=GX l O (PM l O).2 j k b v m1 (af ▸ hk) ao a5;have L1:=Lg l O j k b v;have L2:=wY l O j k b v;have L3:=CP l O j k b v;have L4:=yC l O j k b v;have ST:ii l O j k b v=jX (dz l O) l j (au s k).2 (au s k).1.text (gZ n s (au s k).1.pos) b v:=by unfold ii;rw[hn,af]);rw[af]at SK L1 L2 L3 L4;rw[hn]at L4;rw[ST]at SK L1 L2;have L6:aG (au s k).1=false->(au s k).1.Z8=false->((au s k).1.Zac==0)=false:=qj;have⟨V,R,S,U,I,ag⟩:=hg6 SK L1 L2 L3 L4 L6;clear SK L1 L2 L3 L4 L6 ST;generalize hrr:au s k=r at *;have⟨⟨t,u,fi,p⟩,z⟩:=r;clear hrr;simp only at h5 hI bx ct V R S U I ag;obtain⟨q0,q1,q2,q3,q4,q5⟩:=hI.cells;have c9:=am h5;cases hw:(u==0 && !fi)
 ·cases fi
  ·have P:Z _:=hR.o.trans (I hw (by simp));have hu:(u==0)=false:=(by simpa using hw);clear R S U I ag V;go_wp2_with fail;refine(dI t n _ (aV s p) (bZ s p) _ _).mono ?_;rintro e w5 ⟨rfl,a⟩;have i:=hI.Z0 a (by simp);have c:=a.gt hF;have D5:=D.ZN a;have T5:=T.ZN a;clear q0 q1 q2 q3 q4 q5 hI h5 hF D T a TB;obtain⟨q0,q1,q2,q3,q4,q5⟩:=i.cells;go_wp2_with fail;refine(mV t n u (aV s p) (bZ s p) _ _).mono ?_;rintro e w6 ⟨rfl,bb⟩;simp only[Bool.false_eq_true,if_false];have q:=bb.gt c;have D6:=D5.ZN bb;have T6:=T5.ZN bb;have f:Z _:=(λa0 a1 a2 a3=>nI D6 T6 (F:=w.heap.size) (Vy _) (by omega) M a0 a1 a2 a3);have⟨z0,z1,z2,z3⟩:=cP q;have cW:=ay q;go_wp2;exact VV (v:=agg #[J u,an n,J (aV s p),J (bZ s p)]) (by simp[results,results112,go_sem,z0,z1,z2,z3]) rfl
    ⟨by rw[P.o];rfl,G,by rw[P.o];exact(f _ _ _ _).1,(f ..).2⟩
  ·cases ho:eP v
   ·have P:Z _:=hR.o.trans (U hw rfl ho);clear R S U I ag V;go_wp2_with fail;refine(dI t n _ (aV s p) (bZ s p) _ _).mono ?_;rintro e w5 ⟨rfl,a⟩;have i:=hI.Z0 a (by simp);have c:=a.gt hF;have D5:=D.ZN a;have T5:=T.ZN a;clear q0 q1 q2 q3 q4 q5 hI h5 hF D T a TB;obtain⟨q0,q1,q2,q3,q4,q5⟩:=i.cells;go_wp2_with fail;refine(tU g 186 5 (eY x b) [] v G _ D5 (jf x b ao)).mono ?_;rintro e w6 ⟨rfl,bf⟩;subst bf;rw[ho];have f:Z _:=(λa0 a1 a2 a3=>nI D5 T5 (F:=w.heap.size) (Vy _) (by omega) M a0 a1 a2 a3);obtain⟨z0,z1,z2,z3⟩:=cP c;have cW:=ay c;go_wp2;exact VV (v:=agg #[J 0,cL,J 0,J 0]) (by simp[results,results112,go_sem,z0,z1,z2,z3]) rfl
     ⟨by rw[P.o];rfl,G,by rw[P.o];exact(f _ _ _ _).1,(f _ _ _ _).2⟩
   ·have P:Z _:=hR.o.trans (I hw (by simp[ho]));clear R S U I ag V;go_wp2_with fail;refine(dI t n _ (aV s p) (bZ s p) _ _).mono ?_;rintro e w5 ⟨rfl,a⟩;have i:=hI.Z0 a (by simp);have c:=a.gt hF;have D5:=D.ZN a;have T5:=T.ZN a;clear q0 q1 q2 q3 q4 q5 hI h5 hF D T a TB;obtain⟨q0,q1,q2,q3,q4,q5⟩:=i.cells;go_wp2_with fail;refine(tU g 186 5 (eY x b) [] v G _ D5 (jf x b ao)).mono ?_;rintro e w6 ⟨rfl,bf⟩;subst bf;rw[ho];go_wp2_with fail;refine(mV t n u (aV s p) (bZ s p) _ _).mono ?_;rintro e w7 ⟨rfl,bc⟩;simp only[if_true];have bl:=bc.gt c;have D7:=D5.ZN bc;have T7:=T5.ZN bc;have f:Z _:=(λa0 a1 a2 a3=>nI D7 T7 (F:=w.heap.size) (Vy _) (by omega) M a0 a1 a2 a3);have⟨z0,z1,z2,z3⟩:=cP bl;have cW:=ay bl;go_wp2;exact VV (v:=agg #[J 7,an n,J (aV s p),J (bZ s p)]) (by simp[results,results112,go_sem,z0,z1,z2,z3]) rfl
     ⟨by rw[P.o];rfl,G,by rw[P.o];exact(f ..).1,(f ..).2⟩
 ·(have hu:u=0:=by simp at hw;omega);(have cb:fi=false:=by simp at hw;exact hw.2)
  subst hu cb;have b0:=(a5.small (N:=100000000) (by omega)).2;have RW:=λ(w':World) (h':ba w' g 186 (eY x b) [] v G) (co:cy w' sp n s z) (cq:cR w' x y l z6)=>Dx g x y sp O j z l z6 b ao v G n s t (aV s p) (bZ s p) w' h' hn af hs bx.2.1 co cq b1 b2 bt (a5.small (N:=10000000) (by omega)).1 (by omega) b0
   (λjj ww ce ca cs=>b3 O (by omega) jj b v G ww m1 ce ao a5 (by omega) (by omega) ca cs bd)
  have a8:Z _:=RW;have C:Z _:=V hw;have A:Z _:=R hw;have B:Z _:=S hw;clear RW R S U I ag V;simp only[gZ]at C A B;generalize jX (dz l O) l j z t ⟨n,aV s p,bZ s p⟩ b v=cw at *;obtain⟨⟨⟨r,pf,pl,pc⟩,b6,d2⟩,z2⟩:=cw;simp only[iA]at C A B a8;have ap:=C.2;obtain⟨bp,ch,m2,bk,cg⟩:=C.1;simp only at bp ch bk cg ap;clear C;cases hr:(r==0)
  ·have cj:(r != 0)=true:=(by simp[bne,hr]);have P:Z _:=hR.o.trans (B hr);clear A B;go_wp2_with fail;refine(dI t n _ (aV s p) (bZ s p) _ _).mono ?_;rintro e w5 ⟨rfl,a⟩;have i:=hI.Z0 a (by simp);have a4:=h5.Z0 a (by simp);have c:=a.gt hF;have D5:=D.ZN a;have T5:=T.ZN a;have X:=TB.Z0 a (by simp);clear q0 q1 q2 q3 q4 q5 hI h5 hF D T TB a;obtain⟨q0,q1,q2,q3,q4,q5⟩:=i.cells;go_wp2_with fail;refine(a8 _ D5 a4 X).mono ?_;rintro e w6 ⟨rfl,H2,D6,M6,-⟩;have q:=M6.1.get c (by rintro (e | e | e);omega;omega;exact M e);have m3:=M6.fresh w.heap.size (am c) M;have T7:=T5.word M6 (by omega);have a6:=am q;have y6:=ay q;obtain⟨z0,z1,z2,z3⟩:=cP q;have f:Z _:=(λa0 a1 a2 a3=>nI D6 T7 (F:=w.heap.size) (Vy _) (by omega) m3 a0 a1 a2 a3);clear q0 q1 q2 q3 q4 q5;go_wp2;exact VV (v:=agg #[J r,an pf,J pl,J pc]) (by simp[results,results112,go_sem,a6,z0,z1,z2,z3]) rfl
    ⟨by rw[P.o];rfl,H2,by rw[P.o];exact(f _ _ _ _).1.ZN (bN.alloc _),((f _ _ _ _).2.ZN (bN.alloc _))⟩
  {have cj:(r != 0)=false:=(by simp[bne,hr]);have P:Z _:=hR.o.trans (A hr);clear A B;go_wp2_with fail;refine(dI t n _ (aV s p) (bZ s p) _ _).mono ?_;rintro e w5 ⟨rfl,a⟩;have i:=hI.Z0 a (by simp);have a4:=h5.Z0 a (by simp);have c:=a.gt hF;have D5:=D.ZN a;have T5:=T.ZN a;have X:=TB.Z0 a (by simp);clear q0 q1 q2 q3 q4 q5 hI h5 hF D T TB a;obtain⟨q0,q1,q2,q3,q4,q5⟩:=i.cells;go_wp2_with fail;refine(a8 _ D5 a4 X).mono ?_;rintro e w6 ⟨rfl,H2,D6,M6,cl⟩;have h6:=cl hr;have q:=M6.1.get c (by rintro (e | e | e);omega;omega;exact M e);have b9:jG w6 w4.heap.size n s ⟨t,0,false,p⟩:=M6.1.get i (by rintro (e | e | e);omega;omega;exact bv e);have b4:cR w6 x y l z6:=⟨M6.1.get X.1 (by rintro (e | e | e);exact cu e;exact b2 e;exact bd e),X.2⟩;have e1:=M6.fresh sp (am a4) bt;have e2:=M6.fresh w4.heap.size (am i) bv;have e3:=M6.fresh w.heap.size (am c) M;have e4:=M6.fresh x X.lt bd;have a6:=am q;have c2:=am h6;go_wp2_with fail;refine(tQ sp z2 n s _ hs ap.2 (by exact h6.Z0 (bN.alloc _) (by simp))).mono ?_;rintro e w8 ⟨rfl,h8,ak⟩;have a9:=(b9.Z0 (bN.alloc _) (by simp)).Z0 ak (by simp;omega);have b8:=ak.get ((bN.alloc _).gt q) (by simp;omega);have D8:=(D6.ZN (bN.alloc _)).Z0 ak (by simp;omega) (by intro k hk;simp;rintro rfl;exact e1 hk);have b5:=(b4.Z0 (bN.alloc _) (by simp)).Z0 ak (by simp;omega);have T8:=((T5.word M6 (by omega)).ZN (bN.alloc _)).beyond ak (by simp;omega);have yy:=ay a9;clear q0 q1 q2 q3 q4 q5;have⟨q0,q1,q2,q3,q4,q5⟩:=a9.cells;simp[fW];go_wp2;go_roundg (s.size-z2);{exact⟨z2,O,m2,b6,d2,H2,ap.2,rfl,bp,bk,by omega,by omega,by omega,P,g7 h8 (by omega) ..,qk a9 _,uU b8 (by omega) .., D8.Z0 (JT ..) (by grind) (by grind),b5.Z0 (JT ..) (by grind),T8.beyond (JT ..) (by grind),e1,e2,e3,e4⟩};omega}
theorem Dw(e:∀j,j<l.length->(aw l j).size<=1024)(g:y≠x)(f:Nat):∀(j:Nat) (a:List Bool) (d:Db) (b:Nat->Hd) (w:World) (m:Nat),j<l.length->a.length=4->mM d m->m+fP l a<=9000000->fP l a<=f->ba w x 186 (eY y a) [] d b->cR w y H l z6->¬eD b y->js x y l f j a d b w:=by induction f using Nat.strongRecOn with|_ f IH=>{intro j a d b w m q c o r p h n i;cases k:a.getD j true with|true=>exact zB x y f j l a c d b w (by have:=n.2;omega) h k|false=>exact AA x y H f l z6 e g IH j a d b w m q c o r p h n i k}
structure jt(w:World)(l:List Q)(H:Nat->Hd):Prop where
  Zad:aD w (H 6) (rowT l H)
  syms:∀i s,l[i]?=some s->aD w (H (10+2*i)) (rowS s.ZI)
  prfs:∀i s,l[i]?=some s->aD w (H (11+2*i)) (rowW s.ZT)
theorem ba.record(h:ba f T M z4 y4 m k):jt f m.ZZ k:=by refine⟨h.Zad 6,λi s a=>?_,λi s a=>?_⟩;{have:=h.Zad (10+2*i);(rw[show 10+2*i=2*i+10 by omega]at this ⊢;have e:bC m k (2*i+10)=rowS s.ZI:=by simp[bC,inner,symsAt,a]);rw[e]at this;exact this};{have:=h.Zad (11+2*i);(rw[show 11+2*i=(2*i+1)+10 by omega]at this ⊢;have q:(2*i+1) % 2=1:=by omega);have b:(2*i+1) / 2=i:=(by omega);have e:bC m k ((2*i+1)+10)=rowW s.ZT:=(by grind [bC,inner,vT]);rw[e]at this;exact this}
theorem jt.keptP{P:Nat->Prop}(h:jt f q k)(d:fq P f o)(c:∀x,eD k x->¬P x):jt o q k :=
  ⟨h.Zad.ZS (λx a=>d.block x (h.Zad.lt a) (c x ⟨6,a⟩)),λi s b=>(h.syms i s b).ZS (λx a=>d.block x ((h.syms i s b).lt a) (c x ⟨_,a⟩)),λi s b=>(h.prfs i s b).ZS (λx a=>d.block x ((h.prfs i s b).lt a) (c x ⟨_,a⟩))⟩
theorem jt.Z0{S:Vu}(h:jt f q k)(c:aa S f o)(a:∀x,eD k x->x∉S):jt o q k :=
  h.keptP (c.toP (P:=(·∈S)) (λ_ b _=>b)) a
theorem jt.ZN(h:jt f q k)(a:aW f o):jt o q k:=h.Z0 a (by simp)
def fn:Nat->Hd:=λ_=>⟨none,0⟩
theorem uI:¬eD fn s:=by rintro ⟨i,h⟩;simp[fn,Hd.Z1]at h
def Hp:List Bool:=[false,false,false,false]
theorem ba.begin(h:f.heap[T]?=some (aM (z4++(de bK fn++[])).toArray M)):ba f T M z4 [] bK fn:=by
  refine⟨h,?_,λi j _=>VR rfl,by grind [fn,Hd.Z1]⟩;intro i
  match i with
  | 0=>exact VS ..
  | 1=>exact VS ..
  | 2=>exact VS ..
  | 3=>exact VS ..
  | 4=>exact VS ..
  | 5=>exact VS ..
  | 6=>exact VS ..
  | 7=>exact VS ..
  | 8=>exact VS ..
  | 9=>exact VS ..
  | n+10 =>
    have e:bC bK fn (n+10)=if n % 2=0 then rowS [] else rowW []:=(by rfl);rw[e];split;{exact VS ..};{exact VS ..}
set_option maxRecDepth 512
theorem JF(d:Db)(a:Nat->Hd)(w:World)(h:ba w x y z8 z6 d a)(c:z8.length=H) :
    bF 113 #[pointer (some (aq x H))] w (mU (agg #[Y (a 6).ao d.ZZ.length (a 6).cap,Y (a 7).ao d.rbl.length (a 7).cap]) w):=by have⟨i,j,k,l,m,n,o,p,q,r,e,f,g⟩:=h.cells H c;have b:=h.lt;go_enter func113,ntmps113;go_wp2;exact VV (v:=agg #[Y (a 6).ao d.ZZ.length (a 6).cap,Y (a 7).ao d.rbl.length (a 7).cap]) (by simp[results,results113,go_sem]) rfl ⟨rfl,(aa.refl ..).alloc _⟩
theorem xd(b:∀j,j<l.length->(aw l j).size<=1024)(a:List Bool):fP l a<=4104:=by (have h:∀j,SG l a j<=1026:=by intro j;unfold SG;split;{omega};{rcases Yd j l.length with h | h;{grind};{(have:(aw l j).size=0:=by unfold aw;rw[Vz,Xl h];rfl);omega}});grind [fP]
theorem C0(h:aa y2 f o)(b:T∈y2∨f.heap.size<=T)(a:M∈y2∨f.heap.size<=M)(c d e g i j:Value) :
    aa y2 f ((((((o.setCell (aC T) c).setCell (aq T 1) d).setCell (aC M) e).setCell (aq M 1) g).setCell (aq M 2) i).setCell (aq M 3) j) :=
  (((((h.setCell b _).setCell b _).setCell a _).setCell a _).setCell a _).setCell a _
def d8(fs:Fs)(root:Nat):Ss:=dz fs 5000 root Hp bK
set_option maxRecDepth 100000
theorem QX(X:cR D x y l z6)(N:H<l.length)(P:∀j,j<l.length->(aw l j).size<=1024) :
    bF 87 #[bS x,J H] D λe w' =>
      (if((d8 l H).1.1==0)=true then ∃i,e=dw (tuple #[agg #[Y (i 6).ao (d8 l H).2.2.ZZ.length (i 6).cap,Y (i 7).ao (d8 l H).2.2.rbl.length (i 7).cap],iA cD])/\jt w' (d8 l H).2.2.ZZ i/\(∀k,eD i k->D.heap.size<=k)
       else e=dw (tuple #[agg #[Y none 0 0,Y none 0 0],iA (d8 l H).1]))/\aW D w':=by
  have ad:=X.lt;obtain⟨W,m⟩:∃W,W=((D.alloc (aM #[Y none 0 0,Y none 0 0] 48)).alloc (aM #[J 0,cL,J 0,J 0] 85)).alloc (.cells #[bS x,bool false,bool false,bool false,bool false, Y none 0 0,Y none 0 0,Y none 0 0,Y none 0 0,Y none 0 0,Y none 0 0,Y none 0 0,Y none 0 0,J 0,cL,Y none 0 0,bool false,Y none 0 0] 186):=⟨_,rfl⟩;(have w:aW D W:=by rw[m];exact((bN.alloc _).alloc _).alloc _);(have hA:W.heap[D.heap.size]?=some (aM #[Y none 0 0,Y none 0 0] 48):=by rw[m];exact((bN.alloc _).alloc _).gt (VB ..));(have hF:W.heap[D.heap.size+1]?=some (aM bJ 85):=by (rw[m];have e:(D.alloc (aM #[Y none 0 0,Y none 0 0] 48)).heap.size=D.heap.size+1:=by simp);rw[<-e];exact(bN.alloc _).gt (VB ..));(have V:ba W (D.heap.size+2) 186 (eY x Hp) [] bK fn:=by (refine ba.begin ?_;rw[m];have e:((D.alloc (aM #[Y none 0 0,Y none 0 0] 48)).alloc (aM #[J 0,cL,J 0,J 0] 85)).heap.size=D.heap.size+2:=by simp);rw[<-e];exact VB ..);have HW:Z _:=m.symm;have L:=Dw (D.heap.size+2) x y l z6 P (by omega) 5000 H Hp bK fn W 0 N rfl mM.empty (by grind [xd,Hp]) (by grind [xd,Hp]) V (X.Z0 w (by simp)) (uI _);unfold js at L;have p:Z _:=L;clear m L;have n:Z ((dz l 5000 H Hp bK).2.1.length=4):=((PM l 5000).2 H Hp bK 0 rfl mM.empty).1;have T:Z (d8 l H=dz l 5000 H Hp bK):=rfl;rw[T.o];clear T;generalize dz l 5000 H Hp bK=R at *;have⟨⟨r,pf,pl,pc⟩,q,M⟩:=R;simp only[iA]at p n ⊢;go_enter func87,ntmps87;go_upto_region 2 with fail;(rw[HW.o];go_wp2_with fail;refine VP p ?_;rintro e w2 ⟨rfl,d,S,f⟩;have a:=f.1.get hA (by grind [uI]);have b:=f.1.get hF (by grind [uI]);have K:Z (∀k,eD d k->D.heap.size<=k):=λk g=>by rcases f.2 k g with h | h;{grind [uI]};grind);(have I:Z (∀k,eD d k->k≠D.heap.size/\k≠D.heap.size+1/\k≠D.heap.size+2):=λk g=>by have af:=V.lt;rcases f.2 k g with h | h;{grind [uI]};{omega});have U:Z (aW D w2):=⟨f.1.os.trans w.os,f.1.tape.trans w.tape,f.1.output.trans w.output,by grind,λk g _=>(f.1.block k (by grind) (by grind [uI])).trans (w.block k g (by simp))⟩;have⟨A,B⟩:=xM a;have⟨C,E,F,G⟩:=cP b;have ya:=ay a;have yf:=ay b;have s:=am a;have u:=am b;cases hr:(r==0);{(have O:(r != 0)=true:=by grind);go_wp2_with fail;go_region;(all_goals go_wp2);all_goals exact VV (v:=tuple #[agg #[Y none 0 0,Y none 0 0],agg #[J r,an pf,J pl,J pc]]) (by simp[results,results87,go_sem,A,B,C,E,F,G,s,u]) rfl ⟨rfl,((C0 U (by simp) (by simp) ..).alloc _).drew⟩}
  · (have O:(r != 0)=false:=by grind)
    go_wp2_with fail;refine(JF (D.heap.size+2) 186 5 (eY x q) [] M d _ (by exact S.ZN (bN.alloc _)) (jf x q n)).mono ?_;rintro e w4 ⟨rfl,z⟩;have c:aW w2 w4:=(bN.alloc _).trans z;have t:=c.gt a;have v:=c.gt b;have K4:Z _:=U.o.trans c;have S4:Z _:=S.record.ZN c;clear A B C E F G ya yf z;have⟨A,B⟩:=xM t;have⟨C,E,F,G⟩:=cP v;have ya:=ay t;have yf:=ay v;go_wp2;exact VV (v:=tuple #[agg #[Y (d 6).ao M.ZZ.length (d 6).cap,Y (d 7).ao M.rbl.length (d 7).cap],agg #[J 0,cL,J 0,J 0]]) (by simp[results,results87,go_sem,A,B,C,E,F,G]) rfl
      ⟨⟨d,rfl,S4.o.Z0 (C0 (aa.refl [D.heap.size,D.heap.size+1] w4) (VR (by simp)) (VR (by simp)) ..) (λk g=>by have:=I k g;grind),K⟩,
        C0 K4 (by simp) (by simp) ..⟩
structure eE(w:World)(b o:Nat)(l:List Q)(H:Nat->Hd):Prop where
 cell:∃arr t,w.heap[b]?=some (aM arr t)/\arr[o]?=some (Y (H 6).ao l.length (H 6).cap)
 ZZ:jt w l H
theorem eE.at(h:eE f T M q k):f.cell? (aq T M)=some (Y (k 6).ao q.length (k 6).cap):=by obtain⟨a,t,b,c⟩:=h.cell;grind [ar]
theorem eE.lt{b:Nat}(h:eE f b T q k):b<f.heap.size:=by obtain⟨a,t,c,d⟩:=h.cell;grind
theorem eE.Z0{S:Vu}(h:eE f T M q k)(b:aa S f o)(g:T∉S)(e:∀x,eD k x->x∉S):eE o T M q k:=by obtain⟨a,t,c,d⟩:=h.cell;exact⟨⟨a,t,b.get c g,d⟩,h.ZZ.Z0 b e⟩
theorem eE.ZN(h:eE f T M q k)(a:aW f o):eE o T M q k:=h.Z0 a (by simp) (by simp)
theorem jt.stmt(h:jt f q k)(n:Nat)(m:n<q.length) :
  ∃g,(k 6).ao=some (aC g)/\q.length<=(k 6).cap/\(k 6).cap<=9223372036854775807/\cM f g (n*8) (J q[n].Z3)/\cM f g (n*8+1) (an q[n].Z5)/\cM f g (n*8+2) (Y (k (10+2*n)).ao q[n].ZI.length (k (10+2*n)).cap) /\
  cM f g (n*8+3) (Y (k (11+2*n)).ao q[n].ZT.length (k (11+2*n)).cap)/\cM f g (n*8+4) (an q[n].Z8.Z9)/\cM f g (n*8+5) (J q[n].Z8.Zaa) /\
  cM f g (n*8+6) (J q[n].Z8.Zab)/\cM f g (n*8+7) (J q[n].til):=by rcases h.Zad.ZY with ⟨_,i,_⟩ | ⟨g,d,a,p,e,b,-⟩;{have:q.length=0:=i;omega};{have c:=λj (l:j<8) v (o:(N6 q[n] (k (10+2*n)) (k (11+2*n)))[j]?=some v)=>h.Zad.cell a (n*8+j) v ((LN q k n m j l).trans o);exact⟨g,a,e,by unfold maxLen at b;exact b,c 0 (by omega) _ rfl,c 1 (by omega) _ rfl,c 2 (by omega) _ rfl,c 3 (by omega) _ rfl,c 4 (by omega) _ rfl,c 5 (by omega) _ rfl,c 6 (by omega) _ rfl,c 7 (by omega) _ rfl⟩}
set_option maxRecDepth 512
theorem fj(h:eE D y H I z7) :
  bF 79 #[pointer (some (aq y H))] D (ij (J I.length) D):=by have c:=h.at;go_enter func79,ntmps79;go_wp2;go_ret;exact⟨rfl,rfl⟩
def eC(s:Q)(a b:Hd):Value :=
 agg #[J s.Z3,an s.Z5,Y a.ao s.ZI.length a.cap,Y b.ao s.ZT.length b.cap,an s.Z8.Z9,J s.Z8.Zaa,J s.Z8.Zab,J s.til]
theorem br(h:eE D x y I z7)(e:H<I.length) :
  bF 51 #[pointer (some (aq x y)),J H] D (mU (eC I[H] (z7 (10+2*H)) (z7 (11+2*H))) D):=by
 have c:=h.at;have b:=h.lt;obtain⟨g,a,p,q,f,i,j,k,l,m,n,o⟩:=h.ZZ.stmt H e;have d:=h.ZZ.Zad.lt (k:=g) (by grind [Hd.Z1]);rw[a]at c;unfold eC;go_enter func51,ntmps51;go_wp2;exact VV (v:=agg #[J I[H].Z3,an I[H].Z5,Y (z7 (10+2*H)).ao I[H].ZI.length (z7 (10+2*H)).cap,Y (z7 (11+2*H)).ao I[H].ZT.length (z7 (11+2*H)).cap,an I[H].Z8.Z9,J I[H].Z8.Zaa,J I[H].Z8.Zab,J I[H].til])
  (by simp[results,results51,go_sem]) rfl ⟨rfl,(aa.refl _ _).alloc _⟩
def cn(l:List Q)(n a:Nat):Bool:=match l[n]? with | some s=>decide (n<a)&&(s.til==0||decide (a<s.til)) | none=>false
theorem TO(h:y0<I.length):cn I y0 s=(decide (y0<s)&&(I[y0].til==0||decide (s<I[y0].til))):=by grind [cn]
theorem gV(h:eE D g x I z7)(f:y<I.length) :
  bF 95 #[pointer (some (aq g x)),J y,J H] D (ij (bool (cn I y H)) D):=by have c:=h.at;obtain⟨u,i,r,s,j,k,l,m,n,o,p,q⟩:=h.ZZ.stmt y f;rw[i]at c;have d:Z _:=TO I y H f;generalize I[y].til=t at *;by_cases e:y<H;{cases v:((t:Int)==0);{have a:(t==0)=false:=(by grind);have b:Z (cn I y H=decide (H<t)):=dL (by rw[d.o,a];simp[e]);go_enter func95,ntmps95;go_wp2;go_ret;exact⟨aT (by rw[b.o]),rfl⟩};{have a:(t==0)=true:=(by grind);have b:Z (cn I y H=true):=dL (by rw[d.o,a];simp[e]);go_enter func95,ntmps95;go_wp2;go_ret;exact⟨aT (by rw[b.o]),rfl⟩}};{(have b:Z (cn I y H=false):=by show _=_;rw[d.o];simp[e]);go_enter func95,ntmps95;go_wp2;go_ret;exact⟨aT (by rw[b.o]),rfl⟩}
def jl(l:List Q)(lab:Vq)(a n:Nat):Bool:=match l[n]? with | some s=>(s.Z5.toList==lab.toList) && !(s.Z3==1)&&cn l n a | none=>false
def cd(l:List Q)(lab:Vq)(a:Nat):Option Nat:=(List.range l.length).find? (jl l lab a)
def dU:Option Nat->Int
 | some n=>n
 | none=>-1
theorem Qo(h:s<I.length):jl I A y0 s=((I[s].Z5.toList==A.toList) && !(I[s].Z3==1)&&cn I s y0):=by grind [jl]
theorem jU(b:M<T)(c:ys M=true)(a:∀i,i<M->ys i=false):(List.range T).find? ys=some M :=
 by simp_all
theorem jQ(a:∀i,i<T->ys i=false):(List.range T).find? ys=none :=
 by grind
theorem iy(h:eE D x y I z7)(N:I.length<=1073741824) :
  bF 163 #[pointer (some (aq x y)),an z9,J H] D (ij (J (dU (cd I z9 H))) D):=by have c:=h.at;go_enter func163,ntmps163;go_wp2;go_loopg [7] I.length (λg i wr=>∃k:Nat,k<=I.length/\g=I.length-k/\i=J k/\Z (∀i,i<k->jl I z9 H i=false)/\wr=D);{exact⟨0,by omega,by omega,rfl,λi q=>by omega,rfl⟩};obtain⟨k,M,L,rfl,a,rfl⟩:=hrel;by_cases b:k<I.length;{(obtain⟨g,z,G,K,E,F,r,s,t,u,v,w⟩:=h.ZZ.stmt k b;clear r s t u v w;rw[z]at c;have f:Z _:=Qo I z9 H k b;have n:Z (eE wr x y I z7):=h;generalize I[k].Z5=B at *;generalize I[k].Z3=m at *;have next:Z (jl I z9 H k=false->∀i,i<k+1->jl I z9 H i=false):=by intro A i q;by_cases e:i=k;{subst e;exact A};{exact a i (by omega)});cases o:(B.toList==z9.toList);{have d:Z (jl I z9 H k=false):=(by show _=_;rw[f.o,o];simp);clear f h;go_wp2;go_roundg (I.length-(k+1));{exact⟨k+1,by omega,rfl,by go_num,next d,rfl⟩};omega};{cases j:(m==1);{have l:(m != 1)=true:=(by simp[bne,j]);cases p:cn I k H;{have d:Z (jl I z9 H k=false):=(by show _=_;rw[f.o,p];simp);clear f h;go_wp2_with (go_at_call 95;refine(gV x y k H I z7 _ n b).mono ?_;rintro e C ⟨rfl,rfl⟩);go_roundg (I.length-(k+1));{exact⟨k+1,by omega,rfl,by go_num,next d,rfl⟩};omega};{have d:Z (cd I z9 H=some k):=jU b (by rw[f.o,o,j,p];rfl) a;clear f h;go_wp2_with (go_at_call 95;refine(gV x y k H I z7 _ n b).mono ?_;rintro e C ⟨rfl,rfl⟩);go_ret;exact⟨aB (by rw[d.o];rfl),rfl⟩}};{have l:(m != 1)=false:=(by simp[bne,j]);have d:Z (jl I z9 H k=false):=dL (by rw[f.o,j];simp);clear f h;go_wp2;go_roundg (I.length-(k+1));{exact⟨k+1,by omega,rfl,by go_num,next d,rfl⟩};omega}}};{have d:Z (cd I z9 H=none):=jQ (λi q=>a i (by omega));clear h;go_wp2;go_ret;exact⟨aB (by rw[d.o];rfl),rfl⟩}
def dP(w:World)(h:Hd)(l:Vs):Prop :=
 l=[]∨∃g off cur t,h.ao=some (aq g off)/\w.heap[g]?=some (aM cur t)/\(∀j x,l[j]?=some x->cur[off+j]?=some (an x))/\l.length<=h.cap/\h.cap<=9223372036854775807
theorem aD.view(o:aD f y8 (rowS zU)):dP f y8 zU:=by rcases o.ZY with ⟨_,l,_⟩ | ⟨g,a,c,d,e,b,n,i⟩;{exact VR (Wx l)};{(refine VH ⟨g,0,a,_,c,d,?_,e,by unfold maxLen at b;exact b⟩;intro j x m;have k:a.toList.take (zU.length*1)=strs zU:=i;have:(strs zU)[j]?=some (an x):=by simp[strs,m]);grind}
theorem dP.Z0{S:Vu}(v:dP f y8 zU)(k:aa S f o)(i:∀x,y8.Z1=some x->x∉S):dP o y8 zU:=by rcases v with v | ⟨g,b,a,t,c,d,e⟩;{exact VR v};{exact VH ⟨g,b,a,t,c,k.get d (by grind [Hd.Z1]),e⟩}
theorem dP.ZN(v:dP f y8 zU)(k:aW f o):dP o y8 zU:=v.Z0 k (by simp)
theorem jD(h:y5=y7):dw (an y5)=dw (an y7):=by rw[h]
theorem PC(p:dP D zs z5)(n:z5.length<=1073741824) :
  bF 121 #[Y zs.ao z5.length zs.cap,an A] D (ij (bool (bi z5 A)) D):=by obtain⟨q,j⟩:=zs;rcases p with rfl | ⟨g,b,l,t,e,m,s,u,v⟩;{clear n;go_enter func121,ntmps121;go_wp2;refine Xw 1 ?_;rw[XP];go_wp2;go_ret;exact⟨rfl,rfl⟩};{simp only at e;subst e;go_enter func121,ntmps121;go_wp2;go_loopg [5] z5.length (λg i wr=>∃k:Nat,k<=z5.length/\g=z5.length-k/\i=J k/\Z (bi z5 A=bi (z5.drop k) A)/\wr=D);{exact⟨0,by omega,by omega,rfl,rfl,rfl⟩};obtain⟨k,x,w,rfl,d,rfl⟩:=hrel;by_cases a:k<z5.length;{have r:cM wr g (b+k) (an z5[k]):=(ar m (b+k)).trans (by grind);cases f:((z5[k]).toList==A.toList);{have c:Z _:=Ff z5 A k a d f;go_wp2;go_roundg (z5.length-(k+1));{grind};omega};{have c:Z _:=Lj z5 A k a d f;go_wp2;go_ret;exact⟨aT c.o.symm,rfl⟩}};{have c:Z _:=Fh z5 A k a d;go_wp2;go_ret;exact⟨aT c.o.symm,rfl⟩}}
def bH(s:Q):Vq:=s.ZI.getD 0 ⟨#[]⟩
def az(s:Q):Vq:=if(s.Z3==2)=true/\2<=s.ZI.length then s.ZI.getD 1 ⟨#[]⟩ else⟨#[]⟩
theorem oC(h:s<z5.length):z5.getD s ⟨#[]⟩=z5[s]:=by grind
theorem DP(n:dP D zn u.ZI)(w:u.ZI.length<=1073741824) :
  bF 99 #[eC u zn zs] D (mU (an (bH u)) D):=by unfold eC;obtain⟨q,i⟩:=zn;rcases n with k | ⟨g,b,j,t,e,f,l,s,v⟩;{(have a:Z (bH u=⟨#[]⟩):=by show _=_;grind [bH]);rw[k];simp only[List.length_nil];go_enter func99,ntmps99;go_wp2;go_ret;exact⟨jD a.o.symm,(aa.refl _ _).alloc _⟩};{simp only at e;subst e;by_cases p:u.ZI.length=0;{have c:((u.ZI.length:Int)==0)=true:=(by simp[p]);have a:Z (bH u=⟨#[]⟩):=dL (by grind [bH]);go_enter func99,ntmps99;go_wp2;go_ret;exact⟨jD a.o.symm,(aa.refl _ _).alloc _⟩};{have c:((u.ZI.length:Int)==0)=false:=(by grind);have d:0<u.ZI.length:=(by omega);have a:Z (bH u=u.ZI[0]):=oC _ _ d;have r:cM D g b (an u.ZI[0]):=(ar f b).trans (l 0 _ (by simp));have m:=am f;go_enter func99,ntmps99;go_wp2;go_ret;exact⟨jD a.o.symm,(aa.refl _ _).alloc _⟩}}
theorem mb(m:dP D zn u.ZI)(v:u.ZI.length<=1073741824) :
  bF 97 #[eC u zn zs] D (mU (an (az u)) D):=by unfold eC;cases x:(u.Z3==2);{(have d:(u.Z3 != 2)=true:=by grind);have a:Z (az u=⟨#[]⟩):=dL (by grind [az]);go_enter func97,ntmps97;go_wp2;go_ret;exact⟨jD a.o.symm,(aa.refl _ _).alloc _⟩};{(have d:(u.Z3 != 2)=false:=by grind);by_cases w:u.ZI.length<2;{have a:Z (az u=⟨#[]⟩):=(by show _=_;grind [az]);go_enter func97,ntmps97;go_wp2;go_ret;exact⟨jD a.o.symm,(aa.refl _ _).alloc _⟩};{have b:1<u.ZI.length:=(by omega);obtain⟨n,i⟩:=zn;rcases m with k | ⟨g,c,j,t,e,f,q,r,s⟩;{rw[k]at b;simp at b};{simp only at e;subst e;have a:Z (az u=u.ZI[1]):=dL (by grind [az,oC]);have p:cM D g (c+1) (an u.ZI[1]):=(ar f (c+1)).trans (by grind);have l:=am f;go_enter func97,ntmps97;go_wp2;go_ret;exact⟨jD a.o.symm,(aa.refl _ _).alloc _⟩}}}
def jx(s:Q)(syms:Vs):Bool:=if(s.Z3==2)=true then bi syms (az s) else(s.Z3==3)
theorem wE(b:Hd)(l:Vs)(w:World)(p:dP w zn u.ZI)(i:dP w b l)(n:u.ZI.length<=1073741824)(f:l.length<=1073741824) :
  bF 96 #[eC u zn zs,Y b.ao l.length b.cap] w (mU (bool (jx u l)) w):=by have m:=λ(k:World) (g:dP k zn u.ZI)=>mb u zn zs k g n;have a:Z _:=m;unfold eC at a ⊢;cases q:(u.Z3==2);{(have c:Z (jx u l=(u.Z3==3)):=by show _=_;grind [jx]);go_enter func96,ntmps96;go_wp2;go_ret;exact⟨aT (by rw[c.o]),(aa.refl _ _).alloc _⟩};{(have c:Z (jx u l=bi l (az u)):=by show _=_;unfold jx;rw[q];simp);go_enter func96,ntmps96;go_wp2_with fail;refine(a _ (by exact p.ZN (bN.alloc _))).mono ?_;rintro e r ⟨rfl,d⟩;have j:=((aa.refl [] w).alloc _).trans d;go_wp2_with fail;refine(PC b l _ _ (by exact i.ZN j) f).mono ?_;rintro e s ⟨rfl,rfl⟩;go_wp2;go_ret;exact⟨aT (by rw[c.o]),j⟩}
end Go.Proofs.YtnbalopedcgpcaaGreat

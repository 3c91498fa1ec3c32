import Derived.Test.YtnbalopedcgpcaaGreatJ24
namespace Go.Proofs.YtnbalopedcgpcaaGreat
open Go.RowKit Tryz
open Value IntKind Ending
set_option linter.all false
set_option maxHeartbeats 0
variable{w S:UInt8}{f n:Nat}{x:Vq->Prop}(l:Vq)(H:Nat)(b:Vq)
theorem ze2(c:UInt8)(h:fq (c.toNat:Int)=true/\(c.toNat:Int)≠36):Wd ⟨#[c]⟩:=by (have e:(⟨#[c]⟩:Vq).size=1:=rfl;refine⟨by omega,λi a=>?_⟩;obtain rfl:i=0:=by omega);rw[bA _ _ a];exact h
theorem JN:Wd ⟨#[63]⟩:=ze2 63 (by decide)
def xU(c:UInt8)(i:Nat):List UInt8:=101 :: c :: (fn i).toList
theorem pX(a:w=120∨w=121)(h:f<4200):iB (jK w f)=true:=by have:=(yF h).2;unfold iB jK at *;rw[YE,this];rcases a with rfl | rfl <;> decide
theorem Bf(a:w=120∨w=121)(h:f<4200):iB (vR w f)=true:=by have:=(yF h).2;unfold iB vR at *;rw[YE,YE,this];rcases a with rfl | rfl <;> decide
theorem FE(a:w=120∨w=121)(h:f<4200):iB (xU w f)=true:=by have:=(yF h).2;unfold iB xU at *;rw[YE,YE,this];rcases a with rfl | rfl <;> decide
theorem UR(a:f<4200)(b:n<4200)(h:xU w f=xU S n):w=S/\f=n:=⟨(Xd (Xd h).2).1,uN a b (Xd (Xd h).2).2⟩
theorem zcz(a:f<4200)(b:n<4200)(h:vR w f=vR S n):w=S/\f=n:=⟨(Xd (Xd h).2).1,uN a b (Xd (Xd h).2).2⟩
theorem N1(a:f<4200)(b:n<4200)(h:jK w f=jK S n):w=S/\f=n:=⟨(Xd h).1,uN a b (Xd h).2⟩
section
variable {T z:Vq} {d0 d:Db} {B:List (Nat×Nat)} {R:Vu} {ls vs tv:List (List UInt8)} {N:List St}
theorem nI.dj(h:nI z d0 d B R ls vs tv N)(o:ma T z){a b:List UInt8}(m:iB a=true)(n:iB b=true)(g:a∈vs)(i:b∈vs)(k:a≠b)(j:N≠[]) :
  bI [kw 100,nm z a,nm z b,kw 46] d (λf=>nI z d0 f B R ls vs tv (N++[⟨1,⟨#[]⟩,[nm z a,nm z b],[],cD,0⟩])):=by refine(Jj h.idle 100 1 (by simp) [nm z a,nm z b] ?_ (by simp) (λ_=>by simp) ?_ ?_).mono ?_;{grind [lk]};{refine List.pairwise_cons.2 ⟨λy e=>?_,Y9 ..⟩;grind [tX]};{intro y e;rw[VL (by decide)];simp[List.mem_cons,List.not_mem_nil,or_false]at e;rcases e with rfl | rfl;{exact h.hasA g};{exact h.hasA i}};{rintro f ⟨p,rfl⟩;rw[VL (by decide)];have⟨M,l,c⟩:=h.ZD;refine⟨⟨rfl,rfl,rfl,rfl⟩,h.ZF,h.rbl,h.lab,h.con,h.var,h.act,h.typ,⟨M++[⟨1,d.ZH,[nm z a,nm z b],[],p,0⟩],?_,?_⟩,λ_=>rfl,h.sub⟩;{grind};{rw[VW,c,h.nol j];rfl}}
def pK(z:Vq)(c:UInt8)(ts:Vs)(i:Nat):Vs:=[kw 118,nm z (jK c i),kw 46,nm z (vR c i),kw 102,gD ts i,nm z (jK c i),kw 46]
def oG(z:Vq)(c:UInt8)(ts:Vs)(i:Nat):St:=⟨2,nm z (vR c i),[gD ts i,nm z (jK c i)],[],cD,0⟩
theorem NP(l:ma T z)(k:Nm (MZ T) d0)(b:w=120∨w=121)(a:Vs)(is:Vu):∀{d:Db} {ls vs tv:List (List UInt8)} {N:List St},(∀i∈is,i<4200/\Wd (gD a i)/\bu d0.Zo (gD a i)=true)->is.Nodup->nI z d0 d B R ls vs tv N ->
  (∀i∈is,vR w i∉ls/\jK w i∉ls/\jK w i∉vs/\jK w i∉tv)->bI (is.flatMap (pK z w a)) d (λc=>nI z d0 c B R (ls++is.map (vR w)) (vs++is.map (jK w)) (tv++is.map (jK w)) (N++is.map (oG z w a))):=by induction is with|nil=>grind [bI.nil]|cons i is y=>intro d ls vs tv N e g h t;have⟨j,u,x⟩:=e i (by simp);have⟨n,o,p,q⟩:=t i (by simp);have⟨D,A⟩:=YL.1 g;rw[WM];refine bI.append (R:=λc=>nI z d0 c B R (ls++[vR w i]) (vs++[jK w i]) (tv++[jK w i]) (N++[oG z w a i])) ?_ (λm r=>?_);{show bI ([kw 118,nm z (jK w i),kw 46]++(nm z (vR w i) :: kw 102 :: ([gD a i,nm z (jK w i)]++[kw 46]))) d _;refine bI.append (h.v l k (pX b j) o p (by rcases b with rfl | rfl;exact VS rfl;exact VO rfl)) (λC s=>?_);exact s.f l k (Bf b j) (pX b j) n (by refine⟨?_,?_⟩ <;> (show(102:UInt8)≠_;decide)) (by simp) q u x};{have:=y (d:=m) (ls:=ls++[vR w i]) (vs:=vs++[jK w i]) (tv:=tv++[jK w i]) (N:=N++[oG z w a i]) (by grind) A r (by grind [vR,zcz,jK,N1]);simpa using this}
def Ox(z:Vq)(p:List UInt8×List UInt8):Vs:=[kw 100,nm z p.1,nm z p.2,kw 46]
def Ce(z:Vq)(p:List UInt8×List UInt8):St:=⟨1,⟨#[]⟩,[nm z p.1,nm z p.2],[],cD,0⟩
theorem zct(i:ma T z)(a:List (List UInt8×List UInt8)):∀{d:Db} {N:List St},(∀p∈a,(iB p.1=true/\iB p.2=true)/\p.1∈vs/\p.2∈vs/\p.1≠p.2)->(a≠[]->N≠[])->nI z d0 d B R ls vs tv N ->
  bI (a.flatMap (Ox z)) d (λb=>nI z d0 b B R ls vs tv (N++a.map (Ce z))):=by induction a with|nil=>grind [bI.nil]|cons p a j=>intro d N g f h;have⟨⟨k,l⟩,m,n,o⟩:=g p (by simp);rw[WM];refine bI.append (h.dj i k l m n o (f (by simp))) (λc e=>?_);have:=j (d:=c) (N:=N++[Ce z p]) (by grind) (λ_=>by simp) e;simpa using this
def Cf(z:Vq)(e:List UInt8×Vs):Vs:=nm z e.1 :: kw 101 :: (e.2++[kw 46])
def yi(z:Vq)(e:List UInt8×Vs):St:=⟨3,nm z e.1,e.2,[],cD,0⟩
def ExK(d0:Db)(z:Vq)(tv:List (List UInt8))(e:Vs):Prop:=∃t ys,e=t :: ys/\Wd t/\bu d0.Zo t=true/\∀y∈ys,SyK d0 z tv y
theorem zcu(r:ma T z)(q:Nm (MZ T) d0)(a:List (List UInt8×Vs)):∀{d:Db} {ls:List (List UInt8)} {N:List St},(∀e∈a,iB e.1=true/\e.1∉ls/\(e.1.headD 0≠120/\e.1.headD 0≠121)/\ExK d0 z tv e.2)->(a.map (·.1)).Nodup->nI z d0 d B R ls vs tv N ->
  bI (a.flatMap (Cf z)) d (λc=>nI z d0 c B R (ls++a.map (·.1)) vs tv (N++a.map (yi z))):=by induction a with|nil=>grind [bI.nil]|cons e a s=>intro d ls N p b h;have⟨g,i,j,t,w,k,l,m,n⟩:=p e (by simp);rw[Xj]at b;have⟨v,u⟩:=YL.1 b;rw[WM];refine bI.append (R:=λc=>nI z d0 c B R (ls++[e.1]) vs tv (N++[yi z e])) ?_ (λf o=>?_);{have:=h.st r q g i j 101 3 (by simp) l m n;unfold Cf yi;rw[k];exact this};{have:=s (d:=f) (ls:=ls++[e.1]) (N:=N++[yi z e]) (by grind) u o;simpa using this}
end
structure Jb where
 tf:Vs
 tg:Vs
 xs:Vu
 ds:List (List UInt8×List UInt8)
 es:List (List UInt8×Vs)
 goal:Vs
 w1:Vs
 w2:Vs
 tw:Bool
def Jb.hs(b:Jb)(z:Vq):List St:=b.xs.map (oG z 120 b.tf)++(List.range b.tg.length).map (oG z 121 b.tg)++b.ds.map (Ce z)++b.es.map (yi z)
def thS(z:Vq)(s:List UInt8)(g ws:Vs):St:=⟨5,nm z s,g,ws.map (λx=>(x,cD)),cD,0⟩
def zdT(z:Vq)(s:List UInt8)(g:Vs):St:=⟨4,nm z s,g,[],cD,0⟩
def Jb.tws(b:Jb)(z:Vq):List St:=if b.tw=true then [zdT z [112] b.goal,thS z [111] b.goal [⟨#[63]⟩]] else []
def Jb.ZD(b:Jb)(z:Vq):List St:=b.hs z++([thS z [110] b.goal b.w1,thS z [99] b.goal b.w2]++b.tws z)
def thW(z:Vq)(s:List UInt8)(g ws:Vs):Vs:=nm z s :: kw 112 :: (g++kw 61 :: (ws++[kw 46]))
def axW(z:Vq)(s:List UInt8)(g:Vs):Vs:=nm z s :: kw 97 :: (g++[kw 46])
def Jb.twW(b:Jb)(z:Vq):Vs:=if b.tw=true then axW z [112] b.goal++thW z [111] b.goal [⟨#[63]⟩] else []
def Jb.words(b:Jb)(z:Vq):Vs:=b.xs.flatMap (pK z 120 b.tf)++((List.range b.tg.length).flatMap (pK z 121 b.tg)++(b.ds.flatMap (Ox z)++(b.es.flatMap (Cf z)++(thW z [110] b.goal b.w1++(thW z [99] b.goal b.w2++(b.twW z++[kw 125]))))))
def Jb.vs(b:Jb):List (List UInt8):=b.xs.map (jK 120)++(List.range b.tg.length).map (jK 121)
structure Gi(d0:Db)(z:Vq)(b:Jb):Prop where
 xs:∀i∈b.xs,i<4200/\Wd (gD b.tf i)/\bu d0.Zo (gD b.tf i)=true
 xn:b.xs.Nodup
 ys:∀t∈b.tg,Wd t/\bu d0.Zo t=true
 yl:b.tg.length<4200
 ds:∀p∈b.ds,p.1∈b.vs/\p.2∈b.vs/\p.1≠p.2
 es:∀e∈b.es,(∃c i,(c=120∨c=121)/\i<4200/\e.1=xU c i)/\ExK d0 z b.vs e.2
 en:(b.es.map (·.1)).Nodup
 goal:ExK d0 z b.vs b.goal
 w1:∀x∈b.w1,Wd x
 w2:∀x∈b.w2,Wd x
structure Rc(l L:List St)(z:Vq)(b:Jb):Prop where
 pre:∃M,L=l++M/\M.map xu=(b.ZD z).map (fP (l.length+(b.ZD z).length))
section
variable {T z:Vq} {d0:Db}
theorem Gi.vok{b:Jb}(h:Gi d0 z b):∀v∈b.vs,iB v=true:=by intro v c;rcases VJ.1 c with q | q;{obtain⟨i,a,rfl⟩:=VT.1 q;exact pX (VS rfl) (h.xs i a).1};{obtain⟨i,a,rfl⟩:=VT.1 q;exact pX (VO rfl) (by have:=VH.1 a;have:=h.yl;omega)}
theorem OB(N:List St):Kp 0 H N=N.map (fP H):=by unfold Kp;apply WW;simp
theorem zek(g:ma T z)(P:dp T)(hd:d0=(bn T).2){b:Jb}(h:Gi d0 z b):bI (kw 123 :: b.words z) d0 (λm=>eH m=false/\Rc d0.ZD m.ZD z b):=by
 (have⟨d,R⟩:=P.idle;have f:=lF T P.size;rw[<-hd]at d R f;refine bI.append (a:=[kw 123]) (nI.start d f g).op (λd1 C=>?_);simp[List.length_nil,Nat.add_zero]at C;have hx:∀i∈b.xs,i<4200:=λi d=>(h.xs i d).1;refine bI.append (NP g f (VS rfl) b.tf b.xs h.xs h.xn C (by simp)) (λd2 D=>?_);have L:∀i∈List.range b.tg.length,i<4200:=λi d=>by have:=VH.1 d;have:=h.yl;omega)
 refine bI.append (NP g f (VO rfl) b.tg (List.range b.tg.length) (λi d=>⟨L i d,h.ys _ (by
  grind [gD])⟩) Y8 D (λi d=>?_)) (λd3 E=>?_)
 {grind [vR,jK]};simp[List.nil_append]at E;have K:b.xs.map (jK 120)++(List.range b.tg.length).map (jK 121)=b.vs:=rfl;rw[K]at E;refine bI.append (zct g b.ds (λp I=>?_) (λq=>?_) E) (λd4 h4=>?_);{have⟨V,W,p3⟩:=h.ds p I;exact⟨⟨h.vok _ V,h.vok _ W⟩,V,W,p3⟩}
 ·cases ad:b.ds with
  | nil=>grind
  | cons p r =>
   have I:=(h.ds p (by grind)).1;rcases VJ.1 I with c | c;{have⟨i,d,_⟩:=VT.1 c;intro e;have:=(Xs.1 e).1;rw[YM]at this;grind};{have⟨i,d,_⟩:=VT.1 c;intro e;have:=(Xs.1 e).2;rw[YM]at this;grind}
 have j:∀s:List UInt8,s.headD 0≠102->s∉b.xs.map (vR 120)++(List.range b.tg.length).map (vR 121):=λs hs q=>by
  (rcases VJ.1 q with c | c <;> (obtain⟨i,-,rfl⟩:=VT.1 c;exact hs rfl))
 refine bI.append (zcu g f b.es (λe H=>?_) h.en h4) (λd5 h5=>?_);{have⟨⟨c,i,hc,d,o⟩,B⟩:=h.es e H;rw[o];refine⟨FE hc d,j _ (by show(101:UInt8)≠102;decide),⟨by show(101:UInt8)≠_;decide,by show(101:UInt8)≠_;decide⟩,B⟩};(have U:∀(c:UInt8),c≠102->c≠101->[c]∉b.xs.map (vR 120)++(List.range b.tg.length).map (vR 121)++b.es.map (·.1):=λc C D q=>by rcases VJ.1 q with q | q;{grind};{have⟨e,H,o⟩:=VT.1 q;have⟨⟨c',i,_,_,B⟩,_⟩:=h.es e H;rw[B]at o;exact D (Xd o).1.symm});have⟨t,l,S,u,v,w⟩:=h.goal;unfold thW;rw[S];refine bI.append (h5.p g f (by decide) (by grind) (by decide) u v w h.w1) (λd6 h6=>?_)
 refine bI.append (h6.p g f (by decide) (by
  grind) (by decide) u v w h.w2) (λd7 F=>?_)
 (have O:∀{n:Db} {N:List (List UInt8)},nI z d0 n (d0.ZI++[(d0.Zv.length,d0.Zy.length)]) (d0.rbl++[d0.ZD.length]) N b.vs b.vs (b.ZD z)->bI [kw 125] n (λm=>eH m=false/\Rc d0.ZD m.ZD z b):=λ{n N} G=>by have A:nI z d0 n (d0.ZI++[(d0.Zv.length+0,d0.Zy.length+0)]) (d0.rbl++[d0.ZD.length+0]) N b.vs b.vs (b.ZD z):=G;refine(A.cl (by simp)).mono ?_;intro d9 k;refine⟨?_,?_⟩;{unfold eH;rw[k.idle.ZG,k.ZF,R];rfl};{have⟨M,hM,hN⟩:=k.ZD;exact⟨M,hM,by rw[hN,OB]⟩});unfold Jb.twW;cases af:b.tw;{(rw[VL (by simp),WK];have e:b.ZD z=b.xs.map (oG z 120 b.tf)++(List.range b.tg.length).map (oG z 121 b.tg)++b.ds.map (Ce z)++b.es.map (yi z)++[⟨5,nm z [110],t :: l,b.w1.map (λx=>(x,cD)),cD,0⟩]++[⟨5,nm z [99],t :: l,b.w2.map (λx=>(x,cD)),cD,0⟩]:=by grind [Jb.ZD,Jb.tws,Jb.hs,thS]);rw[<-e]at F;exact O F}
 ·rw[VK rfl,Ws];unfold axW thW;rw[S]
  refine bI.append (F.st g f (by decide) (by
   grind) (by decide) 97 4 (by simp) u v w) (λn G=>?_)
  refine bI.append (G.p g f (b:=[111]) (by decide) (by
   simp[List.mem_append,List.mem_singleton,not_or]
   grind) (by decide) u v w (ws:=[⟨#[63]⟩]) (λy L=>by
    rw[VI.1 L];exact JN)) (λd9 A=>?_)
  (have e:b.ZD z=b.xs.map (oG z 120 b.tf)++(List.range b.tg.length).map (oG z 121 b.tg)++b.ds.map (Ce z)++b.es.map (yi z)++[⟨5,nm z [110],t :: l,b.w1.map (λx=>(x,cD)),cD,0⟩]++[⟨5,nm z [99],t :: l,b.w2.map (λx=>(x,cD)),cD,0⟩]++[⟨4,nm z [112],t :: l,[],cD,0⟩]++[⟨5,nm z [111],t :: l,[(⟨#[63]⟩:Vq)].map (λx=>(x,cD)),cD,0⟩]:=by grind [Jb.ZD,Jb.tws,Jb.hs,thS,zdT]);rw[<-e]at A;exact O A
end
def Bdy(d:Vq)(k:Nat):Prop:=k=d.size∨(k<d.size/\de (aB d k)=true)
theorem NO(g:H<=l.size)(h:aN (bC l H).1=true):Bdy l (bC l H).2/\H+(bC l H).1.text.size<=(bC l H).2/\(Bdy l H->H+(bC l H).1.text.size+1<=(bC l H).2)/\1<=(bC l H).1.text.size:=by (have a:=lH l H g;have b:=js l (skip l H) a.2;have j:Bdy l H->bO l (skip l H)<=skip l H∨H+1<=skip l H:=λq=>by rcases q with rfl | ⟨k,m⟩;{omega};grind [nW,lH]);unfold bC at h ⊢;simp only at h ⊢;split at h;{simp[aN]at h};{next d => rw[VL d];split at h;{simp[aN]at h};{next f => (rw[VL f];have i:(l.extract (skip l H) (bO l (skip l H))).size=bO l (skip l H)-skip l H:=by simp_all);simp only[i];refine⟨?_,by omega,λq=>?_,by omega⟩;{by_cases e:bO l (skip l H)=l.size;{exact VS e};{have c:bO l (skip l H)<l.size:=(by omega);refine VO ⟨c,?_⟩;grind}};grind}}
theorem GC(f:Nat):∀k,k<=b.size->aN (ck b f k).1=true->Bdy b (ck b f k).2/\k<=(ck b f k).2:=by induction f with|zero=>grind [ck,aN]|succ f a=>grind [gE,ck,aN,NO]
theorem Iw(f:Nat):∀k,k<=b.size->aN (cZ b f k).1=true->Bdy b (cZ b f k).2/\k+(cZ b f k).1.text.size<=(cZ b f k).2/\(Bdy b k->k+(cZ b f k).1.text.size+1<=(cZ b f k).2)/\1<=(cZ b f k).1.text.size:=by induction f with|zero=>grind [cZ,aN]|succ f d=>intro k a h;have c:=gE b k a;grind [cZ,NO,fZ,bC,GC,bz]
def oA(l:List St):Nat:=l.countP (λs=>decide (2<=s.ZG))
def Cj(d:Db):Nat:=if d.ZG=6 then 2 else if 2<=d.ZG/\d.ZG<=5 then(if d.Zm=[] then 5 else 7) else 0
def ub(d:Db):Nat:=10*oA d.ZD+Cj d
theorem za2(l:List St)(b:Nat):oA (dy l b)=oA l:=by (unfold oA;have e:(dy l b).map (λs=>s.ZG)=l.map (λs=>s.ZG):=by apply WW;grind [iE,pL]);(have a:∀m:List St,m.countP (λs=>decide (2<=s.ZG))=(m.map (λs=>s.ZG)).countP (λk=>decide (2<=k)):=λm=>by rw[Ze];rfl);grind
theorem IM(d:Db)(h:¬d.ZG=6)(a:¬(2<=d.ZG/\d.ZG<=5)):Cj d=0:=by grind [Cj]
theorem Uc{d:Db}(N:Nm x d)(e:Vq)(D:1<=e.size)(p:Pl)(a:(aV d e p).1=0):ub (aV d e p).2<=ub d+e.size+1:=by (have k:∀c:UInt8,(e.toList == [36,c])=true->e.size=2:=λc h=>by have:=congrArg List.length (Xl h);rw[Wh,Array.length_toList]at this;exact this);(have b:∀f:Db,oA f.ZD=oA d.ZD->Cj f=0->ub f<=ub d+e.size+1:=by grind [ub]);unfold aV at a ⊢;by_cases g:(d.ZG==0)=true;{(rw[VK g]at a ⊢;have g:=Xl g;have l:∀f:Db,f.ZG=0->Cj f=0:=by grind [IM]);unfold aL at a ⊢;split at a;{grind};{next c => rw[VL c];split at a;{next j => rw[VK j];cases A:d.ZI.getLast? with|none=>grind|some q=>{simp only;unfold fE;cases B:d.rbl.getLast? with|none=>exact b _ rfl (l _ g)|some y=>exact b _ (za2 ..) (l _ g)}};grind [IM,bQ,ub,oA,Cj]}};{rw[VL g]at a ⊢;by_cases i:(d.ZG==6)=true;{rw[VK i]at a ⊢;have i:=Xl i;have C:=N.nne (VO i);grind [Cj,ub,bj]};{rw[VL i]at a ⊢;split at a;{next c => rw[VK c];have z:=k _ c;unfold lN at a ⊢;split at a;{cases a};{next j => rw[VL j];split at a;{cases a};{next m => (rw[VL m];have s:d.Zm≠[]:=by grind [fM]);have t:Cj { cJ d p with ZG:=0,ZH:=⟨#[]⟩,Zm:=[],Zq:=false,Zx:=[] }=0:=(by rfl);unfold ub;rw[t];show 10*oA (cJ d p).ZD+0<=_;unfold cJ;split;{grind};{next v => split;{show 10*oA d.ZD+0<=_;omega};{next w => (have n:(s8 (eD d) p).ZD=d.ZD++[⟨d.ZG,d.ZH,d.Zm,d.Zx,p,0⟩]:=by grind [s8,eD]);rw[n];unfold oA;rw[List.countP_append];by_cases o:2<=d.ZG;{(have r:d.ZG<=5:=by have:=N.ZG.2;grind);grind [Cj]};grind}}}}};grind [cI,ub,oA,Cj,aP]}}
theorem LO(o:∀k,k<=b.size->aN (aA b k).1=true->eX (aA b k).1.text=false->x (aA b k).1.text)(f:Nat):∀k d,k<=b.size->Nm x d->((k=0/\ub d=0)∨(ub d<=k+1/\Bdy b k))->(dC l b f k d).1.1=0->ub (dC l b f k d).2<=b.size+1:=by induction f with|zero=>intro k d c _ h _;show ub d<=_;omega|succ f j=>intro k d c N h a;rw[dC]at a ⊢;by_cases i:aN (aA b k).1=true;{rw[VK i]at a ⊢;have e:=Iw b _ k c i;by_cases g:((aV d (aA b k).1.text (il l b (aA b k).1.pos)).1==0)=true;{rw[VK g]at a ⊢;have p:=Uc N (aA b k).1.text e.2.2.2 (il l b (aA b k).1.pos) (Xl g);refine j _ _ (fG b k c).2.1 (N.take _ _ (by grind)) (VO ⟨?_,e.1⟩) a;have n:(aA b k).2=(cZ b (b.size-k+1) k).2:=rfl;have m:(aA b k).1=(cZ b (b.size-k+1) k).1:=rfl;grind};grind};grind
theorem GA{T:Vq}(a:dp T):10*oA (bn T).2.ZD<=1025:=by have h:=LO ⟨#[109]⟩ T (rh T) (T.size-0+1) 0 bN (Wp _) Nm.empty (VS ⟨rfl,rfl⟩) a.ok;have b:ub (bn T).2<=T.size+1:=h;have:=a.size;grind [ub]
end Go.Proofs.YtnbalopedcgpcaaGreat

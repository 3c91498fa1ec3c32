import Derived.Test.YtnbalopedcgpcaaGreatI37
namespace Go.Proofs.YtnbalopedcgpcaaGreat
open Go.RowKit Tryz
open Value IntKind Ending
set_option linter.all false
set_option maxHeartbeats 0
variable{H:Vq}{b:Vs}{w:Nat}
theorem FR(z:Vq)(a:List UInt8):(nm z a).size=z.size+a.length:=by unfold nm;rw[VC];rfl
theorem zaW(i:Nat):(df i).toList.length<=21:=by rw[Wc];exact ja i
section
variable {T z:Vq} {l:List Q} {k F:Nat} {K0 K:Bk} {xs:List (Tm×Int×Int)}
theorem bD.nms(X:bD T z l k k)(c:UInt8)(i:Nat):(nm z (dJ c i)).size<=50/\(nm z (lR c i)).size<=50/\(nm z (mP c i)).size<=50/\∀b,(nm z [b]).size<=50:=by have a:=X.zed.size;have d:=zaW i;refine⟨?_,?_,?_,λb=>?_⟩;{rw[FR];unfold dJ;rw[Ws];omega};{rw[FR];unfold lR;rw[Ws,Ws];omega};{rw[FR];unfold mP;rw[Ws,Ws];omega};{rw[FR,WJ];omega}
theorem bD.goS(X:bD T z l k k)(a:Nat->Nat):(ig z l k a).length<=900/\∀x∈ig z l k a,x.size<=2000:=by obtain⟨c,-⟩:=X.at_ X.af;obtain⟨f,b⟩:=X.symB c;unfold ig;refine⟨by rw[VJ];omega,λx d=>?_⟩;obtain⟨y,e,rfl⟩:=VK.1 d;unfold pO;split;{have:=(b y e).1;omega};{have:=(X.nms 120 (a (by assumption))).1;omega}
theorem bD.moS(X:bD T z l k k):(wF z l k).length<=901/\∀x∈wF z l k,x.size<=2000:=by obtain⟨f,b⟩:=X.goS id;obtain⟨c,-⟩:=X.at_ X.af;have a:=X.af;rw[X.el]at a;obtain⟨r,e,-⟩:=xr X.fine a;rw[<-X.el]at e;unfold wF;refine⟨by rw[Vx,WJ];omega,λx d=>?_⟩;rcases VG.1 d with q | q;{exact b x q};{rw[VO.1 q];have:=((X.symB c).2 (jC l k) (by rw[e];simp)).1;omega}
theorem bD.cnt(X:bD T z l k k):(ae l k).length<=102/\(nz l).length<=102:=by have b:=Fn l k;have c:=Lx l;have a:=xN X.fine;rw[<-X.el]at a;exact⟨by omega,by omega⟩
theorem bD.w1z(X:bD T z l k k)(c:UInt8):(dp z c l k).length=(ae l k).length+1/\∀x∈dp z c l k,x.size<=2000:=by refine⟨by unfold dp lK;simp,λx a=>?_⟩;rcases VG.1 a with q | q;{obtain⟨y,b,rfl⟩:=VK.1 q;obtain⟨i,d,rfl⟩:=VK.1 b;(show(je z c l k i).size<=_);unfold je;split;{have:=(X.nms c (pB l k i)).2.2.1;omega};{have:=(X.nms 120 (wD l k i)).2.1;omega}};{rw[VO.1 q];have:=X.labWd.2;omega}
theorem bD.labS(X:bD T z l k k)(a:Nat->Nat)(c:UInt8):(rK z l k a c).length<=9000/\∀x∈rK z l k a c,x.size<=2000:=by have d:=X.bd k;have e:=X.cnt.2;constructor;{unfold rK mR vM;simp only[List.length_append,List.length_map,List.length_range];omega};{intro x b;rcases VG.1 b with q | q;{rcases VG.1 q with q | q;{have:=(X.outWd x q).2;omega};{obtain⟨i,-,rfl⟩:=VK.1 q;have:=(X.nms 120 (a i)).2.1;omega}};{obtain⟨i,-,rfl⟩:=VK.1 q;have:=(X.nms c i).2.2.1;omega}}
theorem bD.ltS(X:bD T z l k k)(K:Bk):(pT z l k K).size<=1000:=by (have d:=GD ⟨(FJ z l k K).toArray⟩ (jY (K.floats.length+K.holds.length+1+0)) (qt _);have e:(⟨(FJ z l k K).toArray⟩:Vq).size=(FJ z l k K).length:=by simp[ByteArray.size]);(have b:∀a:Vs,(a.flatMap (Nh K (l.getD k bu).Z5 (l.getD k bu).Z5)).length<=2*a.length:=by intro a;induction a with|nil=>exact Vy _|cons x r j=>(rw[Wf,Vx,Ws];have:(Nh K (l.getD k bu).Z5 (l.getD k bu).Z5 x).length<=2:=by unfold Nh;exact qt _);omega);have c:=b (dp z 120 l k);have f:=(X.w1z 120).1;have g:=X.cnt.1;have i:(FJ z l k K).length<=2*(dp z 120 l k).length:=c;unfold pT;omega
theorem bD.w2S(X:bD T z l k k)(h:H.size<=100000):(En l k H).length<=100000/\∀x∈En l k H,x.size<=100000:=by have:=X.labWd.2;refine⟨by simp[En],λx a=>?_⟩;simp only[En,List.mem_cons,List.not_mem_nil,or_false]at a;rcases a with rfl | rfl | rfl | rfl;{show 1<=_;omega};{omega};{show 1<=_;omega};{exact h}
theorem bD.sm1(X:bD T z l k k){a:Vs}{s:List UInt8}(d:b.length<=901/\∀x∈b,x.size<=2000)(c:a.length<=100000/\∀x∈a,x.size<=100000):SmT ⟨s,b,a⟩:=by have _:=X.fine;exact⟨by show b.length<=_;omega,λx e=>by have:=d.2 x e;omega,c.1,c.2⟩
theorem rO.small(X:bD T z l k k)(S:rO z l k F K0 K xs):(∀x∈lN z l k (pT z l k K0)++xs,SmT x.1)/\xs.length<=2:=by
 have f:(ig z l k id).length<=901/\∀x∈ig z l k id,x.size<=2000:=⟨by have:=(X.goS id).1;omega,(X.goS id).2⟩;(have s:=X.moS;have M:=X.cnt;have I:=(X.w1z 120).1;have b:∀x∈dp z 120 l k,x.size<=100000:=λx i=>by have:=(X.w1z 120).2 x i;omega);have w:(dp z 120 l k).length<=100000/\∀x∈dp z 120 l k,x.size<=100000:=⟨by omega,b⟩;(have N:=X.labWd.2;have C:((dp z 120 l k).headD ⟨#[]⟩).size<=100000:=by cases h:dp z 120 l k with|nil=>exact absurd h (sc _ _ _ _)|cons a r=>exact b a (by rw[h];simp));have B:∀{x:Vq},x.size<=100000->(x :: dp z 120 l k).length<=100000/\∀y∈x :: dp z 120 l k,y.size<=100000:=λ{x} h=>⟨by rw[Ws];omega,λy d=>by rcases Wa.1 d with rfl | q;exact h;exact b y q⟩;have A:∀{n:Vs} {x:Vq},(n.length<=9000/\∀y∈n,y.size<=100000)->x.size<=100000->(n++[x]).length<=100000/\∀y∈n++[x],y.size<=100000:=λ{n x} h i=>⟨by rw[Vx,WJ];omega,λy d=>by rcases VG.1 d with q | q;exact h.2 y q;rw[VO.1 q];exact i⟩
 have D:∀q h,((dp z 120 l k).set q (nm z (lR 120 h))).length<=100000/\∀y∈(dp z 120 l k).set q (nm z (lR 120 h)),y.size<=100000:=λq h=>⟨by rw[Xa];omega,λy d=>by
  rcases WP d with c | c
  ·exact b y c
  ·rw[c];have:=(X.nms 120 h).2.1;omega⟩
 have g:∀{x:Vq},x.size<=100000->([(⟨#[40]⟩:Vq),x,(l.getD k bu).Z5,⟨#[41]⟩,⟨#[65]⟩]).length<=100000/\∀y∈[(⟨#[40]⟩:Vq),x,(l.getD k bu).Z5,⟨#[41]⟩,⟨#[65]⟩],y.size<=100000:=λ{x} h=>⟨by simp,λy d=>by
  simp only[List.mem_cons,List.not_mem_nil,or_false]at d;rcases d with rfl | rfl | rfl | rfl | rfl
  ·show 1<=_;omega
  ·exact h
  ·omega
  ·show 1<=_;omega
  ·show 1<=_;omega⟩
 (have u:∀{t:Tm} {v y:Int},SU z l k (pT z l k K0) t v y->SmT t:=λ{t v y} h=>by rcases h with ⟨rfl,-⟩ | ⟨rfl,-⟩ | ⟨rfl,-⟩ | ⟨m,p,rfl,-⟩ | ⟨rfl,-⟩ | ⟨-,rfl,-⟩ | ⟨-,rfl,-⟩ | ⟨q,o,-,-,H,-,rfl,-⟩ | ⟨q,o,-,-,H,-,rfl,-⟩ | ⟨rfl,-⟩;{exact X.sm1 f (B C)};{exact X.sm1 f (B (by show 1<=_;omega))};{exact X.sm1 f (A ⟨by omega,b⟩ (by have:=(X.nms 120 0).2.2.2 119;omega))};{refine X.sm1 f (X.w2S ?_);have e:=congrArg List.length p;have E:m.data.toList.length=m.size:=rfl;have G:(pT z l k K0).data.toList.length=(pT z l k K0).size:=rfl;rw[Vx,E,G]at e;have L:uuL.length=21:=(by decide);have:=X.ltS K0;omega};{exact X.sm1 f (g (by omega))};{exact X.sm1 f (g C)};{exact X.sm1 f ⟨by rw[Xf];omega,λy d=>b y (Xx d)⟩};{exact X.sm1 f (D q o)};{exact X.sm1 f (D q o)};{exact X.sm1 s w});constructor;{intro x i;rcases VG.1 i with q | q;{simp only[lN,List.mem_cons,List.not_mem_nil,or_false]at q;rcases q with rfl | rfl;{exact X.sm1 f w};{exact X.sm1 f (X.w2S (by have:=X.ltS K0;omega))}};{rcases S.wx with rfl | ⟨t,v,y,rfl,h⟩ | ⟨-,-,rfl⟩;{cases q};{rw[VO.1 q];exact u h};{simp only[List.mem_cons,List.not_mem_nil,or_false]at q;rcases q with rfl | rfl;{exact X.sm1 s w};{have j:=X.labS id 120;exact X.sm1 s (A ⟨j.1,λy d=>by have:=j.2 y d;omega⟩ (by have:=(X.nms 120 0).2.2.2 103;omega))}}}};{rcases S.wx with rfl | ⟨t,v,y,rfl,h⟩ | ⟨-,-,rfl⟩ <;> simp}
theorem bD.niS(X:bD T z l k k)(j:Go.Proofs.YtnbalopedcgpcaaGreat.ni11 (oq z F (mR l)) (bP l k)=K0):K0.decl.size<=20000000/\K0.disj.size<=300000000000000000/\K0.ess.size<=1100000000000000:=by
 (have b:=X.lyF X.af X.ff;have o:z.size<=10:=by have:=X.zed.size;omega);(have q:=(bD.types X.ff).2.2.2.1;have n:∀x∈i8 z sX (bP l k).vars.length,gA x/\x.size<=50:=λx a=>by obtain⟨i,m,rfl⟩:=VK.1 a;rw[qP];have C:=(X.bd k).1;have m:=VD.1 m;rw[q]at m;exact⟨(gx X.zed _ (mH (VR rfl) (by omega))).1.noBl,(X.nms 120 i).1⟩);refine⟨?_,?_,?_⟩;{(have e:K0.decl=EL z sX ⟨#[]⟩ (bP l k).types ⟨#[]⟩ (bP l k).vars.length:=by rw[<-j];simp only[Go.Proofs.YtnbalopedcgpcaaGreat.ni11,wB,l8,Ai,Ah,mO,xf,rZ,oq]);rw[e];have u:=(EM (sk:=⟨#[]⟩) (d:=⟨#[]⟩) o (by decide:sX.size<=8) b.ts (bP l k).vars.length (by have:=b.vt;omega)).1;have v:(bP l k).vars.length*2000<=4200*2000:=Wo _ b.vl;have p:(⟨#[]⟩:Vq).size=0:=rfl;omega}
 ·(have e:K0.disj=(Aq (bP l k) lJ (i8 z sX (bP l k).vars.length) [] ⟨#[]⟩ (⟨#[]⟩,false) (bP l k).left.length).1:=by rw[<-j];simp only[Go.Proofs.YtnbalopedcgpcaaGreat.ni11,wB,l8,Ai,Ah,mO,xf,rZ,oq]);rw[e]
  have w:=EK (f:=bP l k) (g:=lJ) (vals:=i8 z sX (bP l k).vars.length) (inner:=[]) (code:=⟨#[]⟩) (s:=(⟨#[]⟩,false)) (λx _=>by
   by_cases a:x<(bP l k).vars.length
   ·have:=(n _ (fC (by rw[gU];exact a))).2;exact this
   ·have:gD (i8 z sX (bP l k).vars.length) x=⟨#[]⟩:=by unfold gD;rw[Vz,Xl (by rw[gU];omega)];rfl
    rw[this];show 0<=_;omega) (λx a=>by cases a) (by simp) (bP l k).left.length
  have y:(bP l k).left.length*1905120000<=100000000*1905120000:=Wo _ b.ll;have A:((⟨#[]⟩,false):Vq×Bool).1.size=0:=rfl;omega
 ·(have e:K0.ess=hyT z sX (bP l k).vars (i8 z sX (bP l k).vars.length) (bP l k).ess ⟨#[]⟩ (bP l k).ess.length:=by rw[<-j];simp only[Go.Proofs.YtnbalopedcgpcaaGreat.ni11,wB,l8,Ai,Ah,mO,xf,rZ,oq]);rw[e]
  have B:=xZ (z:=z) (sg:=sX) (us:=(bP l k).vars) (vals:=i8 z sX (bP l k).vars.length) (L:=(bP l k).ess) (d:=⟨#[]⟩) o (by decide) (λi=>by
   have r:=oU (us:=(bP l k).vars) n ((bP l k).ess.getD i []);have t:=b.ex i
   exact⟨by omega,λx a=>by
    rcases r.2 x a with c | c
    ·have:=t.2 x c;omega
    ·omega⟩) b.el
  have p:(⟨#[]⟩:Vq).size=0:=rfl;omega
end
structure SfW(z:Vq)(F:Nat)(f:Fm)(jp:Vq)(va:Vs)(K:Bk):Prop where
 z:K.z=z
 ofm:K.ofm=bS F
 th:ThB K
 gl:K.goal.length<=900
 vals:K.vals=va
 sz:K.decl.size<=20000000/\K.disj.size<=300000000000000000/\K.ess.size<=1100000000000000/\K.laid.size<=1000000000000
 nm:K.Z7.length<=10/\K.verdicts.length<=10/\K.whys.length<=10
 hd:∃ys,K.whys=ys/\0<ys.length
 rz:(UV K jp).size<=100000000
def sfU(T:Vq)(K:Bk)(f o:Fm)(jp:Vq)(vd y c d:Int):Vq:=UX (GR T K f jp vd c) (gC K f jp vd) f o (bq c f.vars.length) (bq d f.vars.length) vd y
def rM(K:Bk)(f o:Fm)(jp:Vq)(vd y c d:Int):Bk:=uT (gC K f jp vd) f o (bq c f.vars.length) (bq d f.vars.length) vd y
def mtV(K:Bk)(va:Int):Bk:=mtB K (if(jA K==0)=true then Em va va else 2) (jA K)
structure SfH(T z lf:Vq)(nr F:Nat)(f o:Fm)(ls ol:Vs)(k0 K:Bk)(va c d:Int)(P:Bk->Prop):Prop where
 bf:Sq f
 bb:NiB k0
 ty:∀x,x<f.vars.length->((gD f.types x).toList==(⟨#[]⟩:Vq).toList)=false
 la:lf.size<=2000
 th:ThB K
 g1:0<K.goal.length
 pl:K.ZT.length=f.hyps.length+1
 ps:∀x∈K.ZT,x.size<=2000
 pk:K.packed.size<=1000000
 fl:K.floats.length<=100000/\K.holds.length<=100000/\∀x∈K.floats++K.holds,x.size<=2000
 ze:K.z=z/\K.ofm=bS F/\K.Z7=[]/\K.verdicts=[]/\K.whys=[]/\K.laid=⟨#[]⟩
 we:∀g,g<f.which.length->f.which.getD g 0<0->(-1-f.which.getD g 0).toNat<f.ess.length
 vz:∀x∈f.vars,x.size<=1024
 oh:o.hyps.length<=10000/\(∀x∈o.hyps,x.size<=2000)/\o.ess.length<=100000
 vl:K.vals.length=f.vars.length
 vs:∀x∈K.vals,(gA x/\x.size<=50)/\z.size<=x.size
 jz:(bV K.ZT).size<=100000000
 no:∀i,i+(z++⟨#[101,120]⟩).size<=(bV K.ZT).size->BQ (bV K.ZT) (z++⟨#[101,120]⟩) i=true->(nW (bV K.ZT) (z++⟨#[101,120]⟩) (z++⟨#[101,121]⟩) i).2<=i
 two:P (mtV K va)
 wr:jA K=0->∀(v:World) (B:Nat) (w:World),AV v B (mtV K va) f o lf c d w->∃K3,P K3/\fO v w B K3
 pw:∀K3,P K3->SfW z F f (bV K.ZT) K.vals K3/\(rM K3 f o (bV K.ZT) (Em va va) (jA K) c d).z=z/\(rM K3 f o (bV K.ZT) (Em va va) (jA K) c d).ZT=K.ZT/\∃ys,(rM K3 f o (bV K.ZT) (Em va va) (jA K) c d).whys=jA K :: ys
 jd:∀K3,P K3->(sfU T K3 f o (bV K.ZT) (Em va va) (jA K) c d).size<=1024->JdE T (sfU T K3 f o (bV K.ZT) (Em va va) (jA K) c d) (rM K3 f o (bV K.ZT) (Em va va) (jA K) c d) (jA K) nr lf lf ((aZ (sfU T K3 f o (bV K.ZT) (Em va va) (jA K) c d)).drop nr)/\∃a,dA (bz (sfU T K3 f o (bV K.ZT) (Em va va) (jA K) c d)).2.ZZ (z++⟨#[99]⟩)=some a/\aH (bz (sfU T K3 f o (bV K.ZT) (Em va va) (jA K) c d)).2.ZZ a=sd ol o.hyps.length z f ls K.vals
 li:∀i,i<ls.length->LiB z f ls K.vals i
 ln:o.hyps.length+1<=ol.length/\ol.length<=100000/\f.hyps.length<=10000/\f.hyps.length<ls.length/\ls.length<=100000/\f.which.length=f.hyps.length
 nof:dA (bz (gJ T z)).2.ZZ (z++⟨#[99]⟩)=none
section
variable {T z:Vq} {l:List Q} {k F:Nat} {K0 K:Bk} {xs:List (Tm×Int×Int)}
theorem bD.varS(X:bD T z l k k):∀x∈cU l k,x.size<=1024/\gA x:=by (intro x g;obtain⟨n,s,c,-,b,e,-⟩:=oI.1 g;rw[X.el]at c;have f:=mJ (kU T X.fine.size) c b;have d:az s∈s.ZI:=by rw[f.1];simp);have a:=((ft T X.fine.size).ZZ s (WE c)).syms _ d;rw[e]at a;exact⟨a.2,a.1.noBl⟩
theorem U6(A:Nat->Nat->Bool)(h:b.length<=102):(Hy b A).length<=10404:=by
 (unfold Hy;have c:∀(L:Vu) (g:Nat->List Pr),(∀i,(g i).length<=102)->(L.flatMap g).length<=L.length*102:=by intro L g e;induction L with|nil=>exact Vy _|cons a r f=>rw[Wf,Vx,Ws];have:=e a;omega)
 have d:=c (List.range b.length) (λi=>((List.range b.length).filter (λj=>decide (i<j)&&A i j)).map (λj=>(gD b i,gD b j))) (λi=>by
  rw[VJ];have:=Xg (λj=>decide (i<j)&&A i j) (List.range b.length);rw[WT]at this
  omega)
 rw[WT]at d;omega
theorem bD.prS(X:bD T z l k k):(fX l k).length<=10404:=by
 (have e:=X.cnt.1;have f:(cU l k).length<=102:=by rw[jL,<-yn];have:(Hw l k).length<=(ae l k).length:=Xg _ _;omega);(unfold fX;have b:∀(L:Vu) (g:Nat->List (Nat×Nat)),(∀i,(g i).length<=102)->(L.flatMap g).length<=L.length*102:=by intro L g d;induction L with|nil=>exact Vy _|cons a r m=>rw[Wf,Vx,Ws];have:=d a;omega)
 have c:=b (List.range (cU l k).length) (λi=>((List.range (cU l k).length).filter (λj=>decide (i<j)&&cS (cU l k).length (aQ l k (cU l k)) i j)).map (λj=>(i,j))) (λi=>by
  rw[VJ];have:=Xg (λj=>decide (i<j)&&cS (cU l k).length (aQ l k (cU l k)) i j) (List.range (cU l k).length);rw[WT]at this
  omega)
 rw[WT]at c;omega
theorem bD.liB(X:bD T z l k k)(o:w<(aH l k).length):LiB z (bP l k) (aH l k) (i8 z sX (bm l k).length) w:=by
 (obtain⟨f1,f2,f3,B,f5,f6⟩:=bD.types X.ff;have g:=X.lyF X.af X.ff;have f:=X.ff;have hz:=X.zed.size;have hc:=X.cnt;have hp:=X.prS;have L:(bB l k).length=(fX l k).length:=by rw[oR X.as1,VJ]);(have K:=uF l k;have H:=ny f;have u:∀x∈i8 z sX (bm l k).length,gA x/\x.size<=50:=λx a=>by obtain⟨w,o,rfl⟩:=VK.1 a;rw[qP];have hb:=(X.bd k).1;have o:=VD.1 o;exact⟨(gx X.zed _ (mH (VR rfl) (by omega))).1.noBl,(X.nms 120 w).1⟩)
 have v:(gD (aH l k) w).size<=1073741824/\2<=(aL (gD (aH l k) w)).length/\(aL (gD (aH l k) w)).length<=990/\∀x∈aL (gD (aH l k) w),x.size<=1024:=by
  (have E:∀n,∀d:n<l.length,AT l[n]->(l[n].Z3=2∨l[n].Z3=3∨l[n].Z3=4∨l[n].Z3=5)->(bR l n).size<=1073741824/\2<=(aL (bR l n)).length/\(aL (bR l n)).length<=990/\∀x∈aL (bR l n),x.size<=1024:=λn d b t=>by have i:bR l n=dt l[n]:=(by unfold bR;rw[Vv d]);have F:l.getD n bu=l[n]:=(by rw[Vz,Vv d];rfl);obtain⟨s1,D⟩:=X.symB d;rw[F]at s1 D;rw[i,b.split];refine⟨b.sz,by simp,by simp;omega,λx a=>?_⟩;rcases Wa.1 a with rfl | q;{have C:l[n]∈(bz T).2.ZZ:=(by rw[<-X.el];exact VZ d);have:=((ft T X.fine.size).ZZ _ C).lab (by omega);exact this.1.2};{rcases Wa.1 q with rfl | q;{rcases t with h | h | h | h <;> rw[h] <;> decide};{exact(D x q).1}})
  rcases(show w<(ae l k).length∨(∃j,j<(bB l k).length/\w=(ae l k).length+j)∨w=(ae l k).length+(bB l k).length by
   rcases Yd w (ae l k).length with h | h
   ·exact VR h
   ·rcases Yd w ((ae l k).length+(bB l k).length) with m | m
    ·exact VH (VR ⟨w-(ae l k).length,by omega,by omega⟩)
    ·exact VH (VH (by omega))) with h | ⟨j,s,rfl⟩ | h
  {(rw[Qf h];have r:(ae l k).getD w 0∈ae l k:=by rw[show(ae l k).getD w 0=(ae l k)[w] by rw[Vz,Vv h];rfl];exact VZ h);obtain⟨d,b,I⟩:=f.hyp _ r;exact E _ d b (by rcases I with e | e;exact VR e;exact VH (VR e))};{(rw[Lp s];obtain⟨⟨V,W⟩,-⟩:=f.prs _ (VZ s);have C:=VZ s;have i:(bB l k)[j]=(gD (cU l k) ((fX l k)[j]'(by omega)).1,gD (cU l k) ((fX l k)[j]'(by omega)).2):=by simp only[oR X.as1,List.getElem_map]);obtain⟨q1,q2,-⟩:=(iU X.as1).1 (VZ (show j<(fX l k).length by omega));have S:=X.varS _ (fC (l:=cU l k) (k:=((fX l k)[j]'(by omega)).1) (by rw[jL];omega));have U:=X.varS _ (fC (l:=cU l k) (k:=((fX l k)[j]'(by omega)).2) (by rw[jL];omega));have p1:(bB l k)[j].1.size<=1024:=(by rw[i];exact S.1);have p2:(bB l k)[j].2.size<=1024:=(by rw[i];exact U.1);generalize (bB l k)[j]=A at *;rw[mA A V W];refine⟨?_,by simp,by simp,λx a=>?_⟩;{unfold bU;simp only[ByteArray.size_append];show 3+A.1.size+1+A.2.size<=_;omega};{simp only[List.mem_cons,List.not_mem_nil,or_false]at a;rcases a with rfl | rfl | rfl;{decide};{exact p1};{exact p2}}};{rw[h,Qg];have p:=f.isa;unfold gX at p;simp only[Bool.or_eq_true]at p;exact E k f.ha f.Zad (by rcases p with e | e;exact VH (VH (VR (W0 e)));exact VH (VH (VH (W0 e))))}
 obtain⟨N,O,P,R⟩:=v;have c:dS (bP l k).vars (i8 z sX (bm l k).length) (aL (gD (aH l k) w))=(aL (gD (aH l k) w)).map (pO z l k id):=X.putP (J9 z (bm l k).length) _;refine⟨o,N,P,⟨by rw[B];have:=g.vl;omega,by rw[B,gU];exact Vy _⟩,λx a=>?_,?_,?_,λh=>?_,by omega,by omega,by omega⟩;{have G:=u x a;exact⟨by omega,by rw[iG _ G.1];show 1<=1001;omega⟩};{rw[c,VJ];exact⟨O,by omega⟩};{rw[c];intro x a;obtain⟨y,M,rfl⟩:=VK.1 a;unfold pO;split;{have:=R y M;omega};{have:=(X.nms 120 (id (by assumption))).1;omega}};{(have m:w<(bP l k).which.length:=by rw[g.wh];exact h);have:=g.wb w m;exact⟨m,by omega,by have:=g.vl;omega⟩}
theorem bD.outN(X:bD T z l k k):(Ag T).length=(nz l).length/\(dh (bQ T z)).hyps=mR l/\(dh (bQ T z)).ess.length<=102/\(dh (bQ T z)).ess.any (λe=>decide (32<e.length))=!(Ga l)/\(bQ T z).length<=20000/\(Ag T).length+1<=(bQ T z).length:=by (have f:=X.cnt.2;have a:nz (cC T)=nz (bz T).2.ZZ:=qu _;have b:(Ag T).length=(nz l).length:=by unfold Ag;rw[VJ,a,X.el]);(have c:(QJ T).length<=10404:=by unfold QJ;rw[VJ];refine U6 _ ?_;have:(oV (cC T)).length<=(nz (cC T)).length:=mf _ _;rw[a,<-X.el]at this;omega);(have d:(bQ T z).length=(Ag T).length+(QJ T).length+1:=by unfold bQ;rw[Vx,Vx,WJ]);refine⟨b,?_,?_,?_,by omega,by omega⟩;{rw[X.el];exact Gg X.fine X.zed};{rw[Gf X.fine X.zed,VJ];have:=Xg (λh=>((cC T).getD h bu).Z3==3) (nz (cC T));rw[a,<-X.el]at this;rw[a,<-X.el];omega};{rw[X.el];exact Us X.fine X.zed}
theorem zbJ(K:Bk)(a:Vq)(b:Int):(vY K a b).z=K.z/\(vY K a b).ZT=K.ZT/\(vY K a b).whys=K.whys++[jA (BZ K)]:=by simp only[vY,gT,lF,lE,lD,NZ,BZ,and_self]
theorem zbM(K:Bk)(f o:Fm)(i j:Nat)(a y:Int):(Cd K f o i j a y).z=K.z/\(Cd K f o i j a y).ZT=K.ZT/\(Cd K f o i j a y).whys=K.whys++[U7 o y]:=by simp only[Cd,gT,lF,lE,lD,and_self]
theorem Ln(K:Bk)(f o:Fm)(i:Vq)(g y c d:Int):(rM K f o i g y c d).z=K.z/\(rM K f o i g y c d).ZT=K.ZT/\∃j,(rM K f o i g y c d).whys=K.whys++j:=by (have n:(gC K f i g).z=K.z/\(gC K f i g).ZT=K.ZT/\∃j,(gC K f i g).whys=K.whys++j:=by unfold gC;split;{obtain⟨a,b,e⟩:=zbJ K i g;exact⟨a,b,_,e⟩};{exact⟨rfl,rfl,[],by simp⟩});obtain⟨a,b,j,e⟩:=n;unfold rM uT;split;{obtain⟨k,l,m⟩:=zbM (gC K f i g) f o (bq c f.vars.length) (bq d f.vars.length) g y;exact⟨k.trans a,l.trans b,j++[U7 o y],by rw[m,e,Wg]⟩};{exact⟨a,b,j,e⟩}
theorem rO.sfW(X:bD T z l k k)(H:zF w=z)(d:w<=1024)(C:Go.Proofs.YtnbalopedcgpcaaGreat.ni11 (oq z F (mR l)) (bP l k)=K0)(S:rO z l k F K0 K xs):SfW z F (bP l k) (bV (dp z 120 l k)) K0.vals K/\∃b,K.whys=yI z l k :: b:=by (obtain⟨c,u,v,y,A,f,R,B,-⟩:=S.flds;obtain⟨P,s2⟩:=S.small X;obtain⟨L,M,O⟩:=X.niS C;obtain⟨-,-,-,j,m,n,o⟩:=S.N.bare;have g:=X.goS id;have I:=X.zed.size;have r:=S.th.rows;have a:(lN z l k (pT z l k K0)++xs).length<=4:=by rw[Vx];have:(lN z l k (pT z l k K0)).length=2:=rfl;omega);(have p:(kE K0 (dp z 120 l k) [(l.getD k bu).Z5] (sR z l k K0)).Z7=[]:=m;have q:(kE K0 (dp z 120 l k) [(l.getD k bu).Z5] (sR z l k K0)).verdicts=[]:=n;have s:(kE K0 (dp z 120 l k) [(l.getD k bu).Z5] (sR z l k K0)).whys=[]:=o;rw[p,q,s,Wu,Wu,Wu]at r;have V:K.Z7.length<=4:=by rw[r.1,VJ];exact a);(have W:K.verdicts.length<=4:=by rw[r.2.1,VJ];exact a);(have l3:K.whys.length<=4:=by rw[r.2.2,VJ];exact a);(have D:=S.th.size (by show K0.z.size<=10;rw[S.N.zz];omega) P;have t:(kE K0 (dp z 120 l k) [(l.getD k bu).Z5] (sR z l k K0)).laid.size=0:=by show K0.laid.size=0;rw[j];rfl);(rw[t]at D;have E:K.laid.size<=120000000000:=by have:=Wo 30000000000 a;omega);have i:∃b,K.whys=yI z l k :: b:=⟨_,by rw[r.2.2];rfl⟩;refine⟨⟨c,u,⟨by rw[c];omega,by rw[f];exact⟨by omega,g.2⟩,by omega,by omega,by omega,by omega⟩,by rw[f];exact g.1,B.trans S.N.vals.symm,⟨by rw[v];exact L,by rw[y];exact M,by rw[A];exact O,by omega⟩,⟨by omega,by omega,by omega⟩,⟨_,rfl,by obtain⟨b,e⟩:=i;rw[e];simp⟩,?_⟩,i⟩;unfold UV;rw[c];have U:=Dt (X.relab H d).1 (λx G=>by have:=(X.w1z 121).2 x G;omega);have:=(X.w1z 121).1;have:=X.cnt.1;omega
theorem bD.bb(X:bD T z l k k)(F:Nat):NiB (oq z F (mR l)):=by have c:=X.zed.size;have b:=X.cnt.2;refine⟨by show z.size<=10;omega,⟨by show(0:Nat)<=_;omega,by show(0:Nat)<=_;omega,by show(0:Nat)<=_;omega,by show(0:Nat)<=_;omega,?_⟩,⟨rfl,rfl,rfl⟩,λi a=>?_⟩;{(show(mR l).length<=5000);unfold mR;rw[VJ];omega};{show gA (Cf z ⟨#[120]⟩ i);rw[qP];exact(gx X.zed _ (mH (VR rfl) a)).1.noBl}
theorem rO.jdE(X:bD T z l k k)(D:zF w=z)(o:w<=1024){g:Nat}(f:(aZ T).length=g)(S:rO z l k F K0 K xs){c d:Int}{j:Bk}(q:sfU T K (bP l k) (dh (bQ T z)) (bV (dp z 120 l k)) (me l k) (yI z l k) c d=H)(p:rM K (bP l k) (dh (bQ T z)) (bV (dp z 120 l k)) (me l k) (yI z l k) c d=j)(b:H.size<=1024) :
  JdE T H j (yI z l k) g (l.getD k bu).Z5 (l.getD k bu).Z5 ((aZ H).drop g)/\∃a,dA (bz H).2.ZZ (z++⟨#[99]⟩)=some a/\aH (bz H).2.ZZ a=sd (bQ T z) (Ag T).length z (bP l k) (aH l k) K0.vals:=by (obtain⟨V,R,W,U,o5,o6⟩:=X.outN;have B:=(bD.types X.ff).2.2.2.1;obtain⟨r,s,-⟩:=Ln K (bP l k) (dh (bQ T z)) (bV (dp z 120 l k)) (me l k) (yI z l k) c d;rw[p]at r s;unfold sfU at q;obtain⟨pm,m,x2,x3,p2,p3,I,v,x,y⟩:=S.read X D o R U (c:=c) (d:=d) q b;have i:uT (gC K (bP l k) (bV (dp z 120 l k)) (me l k)) (bP l k) (dh (bQ T z)) (bq c (bP l k).vars.length) (bq d (bP l k).vars.length) (me l k) (yI z l k)=j:=p;rw[i]at v x y;obtain⟨M,u,E,G,L,O,P⟩:=I.rowsAll;have t:=r.trans S.flds.1;have A:=s.trans S.flds.2.2.2.2.2.2.1;have C:(aZ H).drop g=M:=by rw[u,<-f,X9]);refine⟨?_,aN l k+1,I.frame.1,?_⟩;{rw[C];refine⟨I.fU,u,E,G,by rw[L];exact v,by rw[O];exact x,by rw[P];exact y,λn=>?_,λn=>?_⟩;{rw[t];exact I.uses n f};{rw[t,A];exact I.steps n}};{have e:=I.frame.2;rw[B]at e;rw[S.N.vals];exact e}
theorem bD.sfH(X:bD T z l k k)(H:zF w=z)(o:w<=1024)(F nr:Nat)(G:(aZ T).length=nr)(c d:Int) :
  ∃P,SfH T z (l.getD k bu).Z5 nr F (bP l k) (dh (bQ T z)) (aH l k) (bQ T z) (oq z F (mR l)) (Go.Proofs.YtnbalopedcgpcaaGreat.niZ (oq z F (mR l)) (bP l k) (l.getD k bu).Z5) (ci l k).ZO c d P:=by obtain⟨K0,D⟩:∃K0,Go.Proofs.YtnbalopedcgpcaaGreat.ni11 (oq z F (mR l)) (bP l k)=K0:=⟨_,rfl⟩;(have N:=X.ni11 F;rw[D]at N;rw[X.niZ F D];obtain⟨f1,f2,f3,V,f5,f6⟩:=bD.types X.ff;obtain⟨o1,o2,o3,o4,o5,o6⟩:=X.outN;have U:=X.lyF X.af X.ff;have ap:=X.zed.size;have ag:=X.cnt;have hb:=X.bd k;have hg:=X.goS id;have p:=X.w1z 120;have ad:=X.labWd.2;have ai:=X.ltS K0;have E:=ny X.ff;have ao:=X.prS;have ak:(bB l k).length=(fX l k).length:=by rw[oR X.as1,VJ]);(have ah:=uF l k;obtain⟨b1,b2,b3,L,M,O,R⟩:=N.bare;have t:jA (kE K0 (dp z 120 l k) [(l.getD k bu).Z5] (sR z l k K0))=yI z l k:=(show jA K0=yI z l k from rO.y N);have ev:Em (ci l k).ZO (ci l k).ZO=me l k:=rfl;have oh:(dh (bQ T z)).hyps.length=(Ag T).length:=by rw[o2,o1];unfold mR;rw[VJ]);(have q:K0.vals=i8 z sX (bm l k).length:=N.vals;have A:(if(yI z l k==0)=true then me l k else 2)=Cg l k (yI z l k):=rfl;have em:mtV (kE K0 (dp z 120 l k) [(l.getD k bu).Z5] (sR z l k K0)) (ci l k).ZO=gT (gT (kE K0 (dp z 120 l k) [(l.getD k bu).Z5] (sR z l k K0)) ⟨#[110]⟩ (bV (ig z l k id)) (bV (dp z 120 l k)) (Cg l k (yI z l k)) (yI z l k)) ⟨#[99]⟩ (bV (ig z l k id)) (sR z l k K0) (Cg l k (yI z l k)) (yI z l k):=by unfold mtV mtB;rw[t,ev,A,show(kE K0 (dp z 120 l k) [(l.getD k bu).Z5] (sR z l k K0)).goal=ig z l k id from N.goal];rfl);(have m:vC (kE K0 (dp z 120 l k) [(l.getD k bu).Z5] (sR z l k K0)) (lN z l k (pT z l k K0)) (mtV (kE K0 (dp z 120 l k) [(l.getD k bu).Z5] (sR z l k K0)) (ci l k).ZO):=by rw[em];exact⟨110,_,rfl,tW (XY.2 (sc z 120 l k)),99,_,rfl,X.pkW K0,rfl⟩);obtain⟨f,n⟩:∃f,mtV (kE K0 (dp z 120 l k) [(l.getD k bu).Z5] (sR z l k K0)) (ci l k).ZO=f:=⟨_,rfl⟩;(have K:Sv (kE K0 (dp z 120 l k) [(l.getD k bu).Z5] (sR z l k K0)) f:=by rw[<-n];exact m.same);refine⟨λr=>∃xs,rO z l k F K0 r xs,U,X.bb F,λx a=>?_,by omega,⟨by show K0.z.size<=10;rw[N.zz];omega,by show K0.goal.length<=1000/\∀x∈K0.goal,x.size<=2000;rw[N.goal];exact⟨by omega,hg.2⟩,by show K0.laid.size<=_;rw[L];show 0<=_;omega,by show K0.Z7.length<=500/\K0.verdicts.length<=500/\K0.whys.length<=500;rw[M,O,R];simp⟩,by show 0<K0.goal.length;rw[N.goal];exact rO.pos X id,by show(dp z 120 l k).length=_;rw[p.1,E],p.2,?_,?_,⟨N.zz,N.ofm,M,O,R,L⟩,λg j b=>?_,λx a=>?_,⟨?_,?_,by omega⟩,by show K0.vals.length=_;rw[q,gU,V],λx a=>?_,?_,?_,?_,?_,?_,?_,λi u=>?_,⟨by omega,by omega,by omega,by omega,by omega,U.wh⟩,Qy X.fine X.zed [99] (by decide)⟩;{rw[V]at a;cases hc:((gD (bP l k).types x).toList==(⟨#[]⟩:Vq).toList);{rfl};{exfalso;rw[f1]at hc;exact Di (LT (X.tyw k) a) (by rw[W0 hc];decide +kernel)}};{(show(sR z l k K0).size<=_);unfold sR;simp only[ByteArray.size_append];show 2+_+3+_<=_;omega};{show K0.floats.length<=_/\K0.holds.length<=_/\∀x∈K0.floats++K0.holds,x.size<=_;rw[N.fl,N.ho];refine⟨?_,?_,λx a=>?_⟩;{unfold mR Bc;simp only[List.length_append,List.length_map,List.length_range];omega};{unfold vM;simp only[List.length_map,List.length_range];omega};{exact(X.labS id 120).2 x a}};{have e:=oj X.ff;rw[e]at j b ⊢;rw[L7]at j;rw[Ad l _ 0 0 g j]at b ⊢;rcases nt (l:=l) (k:=k) j with ⟨I,C,-⟩ | ⟨I,C,-⟩;{rw[I,VQ rfl,f5];have C:(((ae l k).take g).filter (λh=>(l.getD h bu).Z3==3)).length<(fJ l k).length:=C;omega};{rw[I,VI (by simp)]at b;omega}};{rw[f2]at a;exact(X.varS x a).1};{rw[oh,o1];omega};{rw[o2];intro x a;have:=(X.outWd x a).2;omega};{have a:x∈K0.vals:=a;rw[q]at a;obtain⟨i,u,rfl⟩:=VK.1 a;rw[qP];have u:=VD.1 u;refine⟨⟨(gx X.zed _ (mH (VR rfl) (by omega))).1.noBl,(X.nms 120 i).1⟩,?_⟩;rw[FR];omega};{have hp:=Dt (tW (XY.2 (sc z 120 l k))) (λx a=>by have:=p.2 x a;omega);(show(bV (dp z 120 l k)).size<=_);omega};{exact(X.relab H o).2};{exact⟨[],N,VR rfl,λh=>absurd rfl h,by rw[WH];exact m⟩};{(intro h0 v B av s;rw[n]at s;rw[n]at m;have hf:f.z=z/\f.goal=ig z l k id/\f.ZT=dp z 120 l k/\f.floats=mR l++Bc z (bm l k).length/\f.holds=vM z 120 (fJ l k).length/\f.packed=sR z l k K0:=by obtain⟨p1,p2,p3,p4,e⟩:=K;rw[e];exact⟨N.zz,N.goal,rfl,N.fl,N.ho,rfl⟩);obtain⟨q1,q2,q3,q4,q5,q6⟩:=hf;obtain⟨xs,r,t1,t2,t3⟩:=X.wr_xs q1 q2 q3 q4 q5 q6 o4 s;exact⟨r,⟨xs,N,t1,λ_=>t.symm.trans h0,m.app t2⟩,t3⟩};{rintro r ⟨xs,S⟩;obtain⟨w1,ys,w2⟩:=S.sfW X H o D;obtain⟨e1,e2,zs,e3⟩:=Ln r (bP l k) (dh (bQ T z)) (bV (dp z 120 l k)) (me l k) (yI z l k) c d;rw[t];exact⟨w1,e1.trans w1.z,e2.trans S.flds.2.2.2.2.2.2.1,ys++zs,by show _=_;rw[<-W1,<-w2];exact e3⟩};{rintro r ⟨xs,S⟩ W;rw[t]at W ⊢;have:=S.jdE X H o G (c:=c) (d:=d) rfl rfl W;rw[oh];exact this};{show LiB z (bP l k) (aH l k) K0.vals i;rw[q];exact X.liB u}
end
end Go.Proofs.YtnbalopedcgpcaaGreat

import Derived.Test.YtnbalopedcgpcaaGreatJ26
namespace Go.Proofs.YtnbalopedcgpcaaGreat
open Go.RowKit Tryz
open Value IntKind Ending
set_option linter.all false
set_option maxHeartbeats 0
variable{i:Vq}{S:Nat}{o:World}{a:Vs}(y:Vq)(d:Vs)(l:List St)
theorem ia{b:Vq}(h:i.data.toList=b.data.toList):i=b:=by apply Yk;simp_all
theorem O0(L:List (UInt8×Vq)):(dA L).data.toList=L.flatMap (λy=>y.1 :: y.2.data.toList):=by induction L with|nil=>rfl|cons y L a=>have⟨b,x⟩:=y;rw[WM,<-a];rfl
theorem Te(k:Nat)(b:k+1<=d.length):(32:UInt8) :: (EU d (k+1)).data.toList=(d.take (k+1)).flatMap (λx=>32 :: x.data.toList):=by induction k with|zero=>(rw[VY (by omega)];have e:gD d 0=d[0]:=by grind [gD]);simp[EU,e,ByteArray.data_append]|succ k a=>(have e:gD d (k+1)=d[k+1]:=by grind [gD]);rw[VY (by omega),Wn,<-a (by omega),EU,VK (by omega),e];simp
theorem sd(h:0<d.length):(32:UInt8) :: (gH d).data.toList=d.flatMap (λx=>32 :: x.data.toList):=by (have⟨n,a⟩:∃n,d.length=n+1:=by simp_all);grind [gH,Te]
def zf9(T z:Vq)(ts g ws:Vs):Vq:=T++⟨#[10,36,123]⟩++En z ⟨#[120]⟩ ⟨#[]⟩ ts ⟨#[]⟩ ts.length++DP ⟨#[]⟩ z ⟨#[110]⟩ (gH g) (gH ws)++⟨#[10,36,125]⟩
theorem ka(c:UInt8)(h:c≠91/\c≠40/\33<=c.toNat/\c.toNat<=126):yb (kw c):=VO ⟨c,rfl,h⟩
def Ob(l:List St):Vu->Nat->Nat->List Int
 | [],_,_=>[]
 | h :: r,v,e=>if((l.getD h aX).ZG==3)=true then(-1-(e:Int)) :: Ob l r v (e+1) else(v:Int) :: Ob l r (v+1) e
theorem Kz(b:Vu)(h:∀n∈b,∃h:n<l.length,D0 l[n]/\(l[n].ZG=2∨l[n].ZG=3)):∀(f:Fm),((b.map (dt l)).foldl (λf x=>cR f (aZ x)) f).which=f.which++Ob l b f.vars.length f.ess.length:=by induction b with|nil=>intro f;simp[Ob]|cons n b g=>{(intro f;have⟨k,a,c⟩:=h n (by simp);have d:dt l n=fQ l[n]:=by grind [dt]);(have e:l.getD n aX=l[n]:=by grind);simp[List.map_cons,List.foldl_cons];rw[g (by grind),d];have j:=tP l[n].ZH (ii l[n].ZG :: l[n].Zm) a.lab;rw[a.split,Ob,e];rcases c with c | c;{(have i:=a.two c;have m:jQ (l[n].ZH :: ii l[n].ZG :: l[n].Zm) 102=true:=by grind [kF,EZ,Ga]);grind [cR,ii,gD]};grind [jQ,ii,kF,wO,Ga,cR]}
theorem zcV(a:Vu):∀v e,(Ob l a v e).length=a.length:=by induction a with|nil=>intro v e;rfl|cons h r b=>grind [Ob]
theorem MF(a:Vu):∀v e q,q<a.length->(Ob l a v e).getD q 0=if((l.getD (a.getD q 0) aX).ZG==3)=true then -1-((e+((a.take q).filter (λh=>(l.getD h aX).ZG==3)).length:Nat):Int) else((v+((a.take q).filter (λh=>!((l.getD h aX).ZG==3))).length:Nat):Int):=by induction a with|nil=>simp|cons h r d=>{intro v e q f;rw[Ob];cases q with|zero=>show _=if((l.getD h aX).ZG==3)=true then _ else _;by_cases c:((l.getD h aX).ZG==3)=true;{simp_all};simp_all|succ q=>have b:q<r.length:=(by grind);cases c:((l.getD h aX).ZG==3);{grind};{rw[VK rfl,Yi,Yi,d _ _ _ b,List.take_succ_cons,Yt (p:=λh=>(l.getD h aX).ZG==3) c,List.filter_cons_of_neg (by grind),WR];grind}}
theorem vY{l:List St}(h:pF l S):(dQ (bP l S)).which=Ob l (ae l S) 0 0:=by (have a:dt l S=fQ (l[S]'h.ha):=by grind [dt]);unfold dQ iF;rw[Wx];unfold bP;rw[WQ,WQ];simp[List.foldl_cons,List.foldl_nil,a];rw[qR _ (λp b=>(h.prs p b).1),xe h.ZP h.isa];(show(((ae l S).map (dt l)).foldl (λf x=>cR f (aZ x)) Ch).which=_);rw[Kz l _ h.hyp];rfl
theorem vK(c:y.size<=1024)(f:dU y=false):(bn y).2.ZD.length<=4104:=by (have b:∀j,j < [((⟨#[109]⟩:Vq),y)].length->(aC [(⟨#[109]⟩,y)] j).size<=1024:=λj k=>by (have:j=0:=by grind);subst this;exact c);(have⟨_,_,m,d,n⟩:=(Nk [(⟨#[109]⟩,y)] b 5000).2 0 JT bN 0 rfl Gd.empty;have i:=yQ [(⟨#[109]⟩,y)] b JT;have g:m<=4104:=by omega);(have l:=d.bnd.ZD;have e:=lG [(⟨#[109]⟩,y)] 0 (by simp) c (vC y f);unfold eq at e;have a:((dz [((⟨#[109]⟩:Vq),y)] 5000 0 JT bN).2.2.ZD).length<=4104:=by omega);rw[e]at a;exact a
theorem Uu(c:dp i):FlD (bn i).2:=by refine⟨λn s h k=>((AQ i).ZD s (by grind)).two k,λn m s u a b g j d f=>?_,λk=>?_⟩;{exact WD.2 (λe=>(on i).ds n m s u a b g j d f (fJ e))};{have:=c.idle.1.ZG;omega}
def lbF(z:Vq)(f:Fm)(x:Vq):Vq:=match aG f.hyps x with
 | none=>x
 | some q=>fN z f.which q ⟨#[120]⟩
theorem MC(s:Vq){i:Nat}(h:i<S):gD (tD y s S) i=DT y s i:=by grind [gD,tD]
section
variable {T z:Vq} {k:Nat}
theorem Ei(b:dp T){s:St}(h:(bn T).2.ZD[S]?=some s)(d:2<=s.ZG/\s.ZG<=5):Ri (aI s)/\bu (bn T).2.Zo (aI s)=true:=by (have N:=jf T b.size;have⟨c,r,e,a⟩:=(N.ZD s (by grind)).code d;have t:aI s=c:=by grind [aI]);rw[t];exact⟨N.con c ((gy ..).1 a),a⟩
theorem N5(e:dp T)(k:Nat):∀t∈fC (bn T).2.ZD k,Ri t/\bu (bn T).2.Zo t=true:=by intro t b;obtain⟨h,a,rfl⟩:=VT.1 b;obtain⟨-,c,d⟩:=So a;grind [Ei,uW]
end
structure TrE(T U z code:Vq):Prop where
 fine:dp U
 rows:bi U=bi T++[⟨nm z [110],5,0,cD⟩]
 tree:∀res,gQ (bn U).2.ZD (nm z [110]) code res->res.1≠10
structure TrP(T z code:Vq)(f:Fm)(ws:Vs):Prop where
 vars:f.vars.length<=4200/\f.types.length=f.vars.length
 types:∀t∈f.types,t.size<=1024
 hyps:f.hyps.length<=10000/\f.which.length=f.hyps.length
 which:∀i,i<f.which.length->-9999<=f.which.getD i 0/\f.which.getD i 0<=9999
 goal:1<=f.goal.length/\f.goal.length<=11
 put:(fe f.vars (tD z ⟨#[120]⟩ f.vars.length) (f.goal.drop 1)).length<=10
 syms:∀x∈code :: fe f.vars (tD z ⟨#[120]⟩ f.vars.length) (f.goal.drop 1),x.size<=2000
 labs:0<ws.length/\ws.length<=64
 new:∀x∈ws.map (lbF z f),x.size<=2000
 read:(zf9 T z f.types (code :: fe f.vars (tD z ⟨#[120]⟩ f.vars.length) (f.goal.drop 1)) (ws.map (lbF z f))).size<=1024->TrE T (zf9 T z f.types (code :: fe f.vars (tD z ⟨#[120]⟩ f.vars.length) (f.goal.drop 1)) (ws.map (lbF z f))) z code
theorem zgc(a:Vu):∀(v e q:Nat),(-1-(e:Int)-a.length)<=(Ob l a v e).getD q 0/\(Ob l a v e).getD q 0<=(v:Int)+a.length:=by induction a with|nil=>grind [Ob]|cons h r b=>intro v e q;rw[Ob];split;{cases q with|zero=>simp[List.getD_cons_zero,List.length_cons];omega|succ q=>rw[Yi,WR];grind};{cases q with|zero=>grind|succ q=>rw[Yi,WR];have:=b (v+1) e q;omega}
def QD(w:World)(n:Nat):World:={ w with heap:=w.heap.extract 0 n }
section
variable {w v w':World} {n:Nat}
theorem yY(h:n<=w.heap.size):(QD w n).heap.size=n:=by unfold QD;grind
theorem Vl(h:n<=w.heap.size)(a:S<n):(QD w n).heap[S]?=w.heap[S]?:=by grind [QD]
theorem zcO(h:n<=w.heap.size):aJ (QD w n) w:=⟨rfl,rfl,rfl,by rwa [yY h],by grind [yY,Vl]⟩
theorem ab.tn{S:Vu}(k:ab S v w)(b:v.heap.size<=n)(h:n<=w.heap.size):ab S v (QD w n):=⟨k.os,k.tape,k.output,by rwa [yY h],λi a c=>(Vl h (VD a b)).trans (k.block i a c)⟩
end
structure TrV(b x gr g F n:Nat)(T:Vq)(lab:Vq)(lv:Value)(f:Fm)(es:List Ex)(hg:Hd)(Hf:Nat->Hd)(L:Vs)(v:World):Prop where
 wat:aU v b x T (some gr)
 ver:∃fs,cH v x fs/\xp 0 fs
 form:∀w,ab [g] v w->eV w F n lab lv f es hg Hf
 lst:oe v (some g) L
 ne:g≠b/\g≠gr/\g≠x
structure TrS(g B:Nat)(v w:World)(k:Bk)(H:Nat->Hd)(L:Vs):Prop where
 bag:ze w B k H
 new:v.heap.size<=B/\∀y,dw H y->v.heap.size<=y
 lst:oe w (some g) L
 ZE:ab [g] v w
section
variable {b x gr g F n B:Nat} {T lab:Vq} {lv:Value} {f:Fm} {es:List Ex} {hg:Hd} {Hf H H':Nat->Hd} {L:Vs} {v w w':World} {k k':Bk}
end
theorem CW{c:Hd}(v:cC o c a)(i:1<=a.length):∃e l,c.ao=some (X e l)/\e<o.heap.size/\a.length<=c.cap/\c.cap<=9223372036854775807/\(c.cap=1->a.drop 1=[])/\cC o ⟨some (X e (l+1)),c.cap-1⟩ (a.drop 1):=by rcases v with m | ⟨g,b,d,t,n,f,p,q,r⟩;{rw[m]at i;simp at i};{refine⟨g,b,n,ak f,q,r,λh=>Wb (by rw[Xp];omega),VO ⟨g,b+1,d,t,rfl,f,λj x k=>?_,?_,?_⟩⟩;{rw[List.getElem?_drop]at k;rw[show b+1+j=b+(1+j) by omega];exact p (1+j) x k};{grind};grind}
def mxL(z:Vq)(f:Fm)(ws:Vs)(j:Nat):Vs:=(ws.take j).map (lbF z f)++ws.drop j
section
variable {z:Vq} {f:Fm} {ws:Vs} {j:Nat}
theorem zfQ(h:j<ws.length):(mxL z f ws j)[j]?=some ws[j]:=by grind [mxL]
theorem zbV(h:j<ws.length):mxL z f ws (j+1)=(mxL z f ws j).set j (lbF z f ws[j]):=by (unfold mxL;rw[VY h,Wg h,VW,Ws,List.set_append_right _ _ (by grind)];have e:j-((ws.take j).map (lbF z f)).length=0:=by grind);grind
theorem zgn(h:j<ws.length)(e:lbF z f ws[j]=ws[j]):mxL z f ws (j+1)=mxL z f ws j:=by rw[zbV h,e];refine WW (λi=>?_);grind [zfQ]
end
theorem zc7(h:oe o (some S) a)(b:a.length<=10000):cC o ⟨some (aD S),a.length⟩ a :=
 VO ⟨S,0,_,_,rfl,h.ZF S rfl,by grind [strs],Vw _,by grind⟩
section
variable {b x gr n:Nat} {T U z code:Vq} {ao:Vt} {m:Nat} {ee:Int} {w w':World}
end
end Go.Proofs.YtnbalopedcgpcaaGreat

import Derived.Test.YtnbalopedcgpcaaGreatI23
namespace Go.Proofs.YtnbalopedcgpcaaGreat
open Go.RowKit Tryz
open Value IntKind Ending
set_option linter.all false
set_option maxHeartbeats 0
variable{y M:Vq}{S D:Nat}{o:World}{I:Hd}{d:Vs}(a:Vq)(i:Vs)(l:List Q)
theorem iO(h:y.data.toList=M.data.toList):y=M:=by apply YC;simp_all
theorem zcW(i:Nat):Cf a ⟨#[120]⟩ i=nm a (dJ 120 i):=iO (by simp[Cf,nm,dJ,lL,ByteArray.data_append,ByteArray.toList_eq])
theorem MQ(L:List (UInt8×Vq)):(dl L).data.toList=L.flatMap (λy=>y.1 :: y.2.data.toList):=by induction L with|nil=>rfl|cons y L a=>have⟨b,x⟩:=y;rw[Wf,<-a];rfl
theorem Qa(k:Nat)(b:k+1<=i.length):(32:UInt8) :: (MP i (k+1)).data.toList=(i.take (k+1)).flatMap (λx=>32 :: x.data.toList):=by induction k with|zero=>(rw[Wt (by omega)];have e:gD i 0=i[0]:=by grind [gD]);simp[MP,e,ByteArray.data_append]|succ k a=>(have e:gD i (k+1)=i[k+1]:=by grind [gD]);rw[Wt (by omega),WK,<-a (by omega),MP,VQ (by omega),e];simp
theorem oG(h:0<i.length):(32:UInt8) :: (bV i).data.toList=i.flatMap (λx=>32 :: x.data.toList):=by (have⟨n,a⟩:∃n,i.length=n+1:=by simp_all);grind [bV,Qa]
theorem jN(c:UInt8)(h:c≠91/\c≠40/\33<=c.toNat/\c.toNat<=126):Al (kw c):=VH ⟨c,rfl,h⟩
def LZ(l:List Q):Vu->Nat->Nat->List Int
 | [],_,_=>[]
 | h :: r,v,e=>if((l.getD h bu).Z3==3)=true then(-1-(e:Int)) :: LZ l r v (e+1) else(v:Int) :: LZ l r (v+1) e
theorem IE(b:Vu)(h:∀n∈b,∃h:n<l.length,AT l[n]/\(l[n].Z3=2∨l[n].Z3=3)):∀(f:Fm),((b.map (bR l)).foldl (λf x=>cO f (aL x)) f).which=f.which++LZ l b f.vars.length f.ess.length:=by induction b with|nil=>intro f;simp[LZ]|cons n b g=>{(intro f;have⟨k,a,c⟩:=h n (by simp);have d:bR l n=dt l[n]:=by grind [bR]);(have e:l.getD n bu=l[n]:=by grind);simp[List.map_cons,List.foldl_cons];rw[g (by grind),d];have j:=sB l[n].Z5 (gd l[n].Z3 :: l[n].ZI) a.lab;rw[a.split,LZ,e];rcases c with c | c;{(have i:=a.two c;have m:jw (l[n].Z5 :: gd l[n].Z3 :: l[n].ZI) 102=true:=by grind [km,C3,El]);grind [cO,gd,gD]};grind [jw,gd,km,uC,El,cO]}
theorem L7(a:Vu):∀v e,(LZ l a v e).length=a.length:=by induction a with|nil=>intro v e;rfl|cons h r b=>grind [LZ]
theorem Ad(a:Vu):∀v e q,q<a.length->(LZ l a v e).getD q 0=if((l.getD (a.getD q 0) bu).Z3==3)=true then -1-((e+((a.take q).filter (λh=>(l.getD h bu).Z3==3)).length:Nat):Int) else((v+((a.take q).filter (λh=>!((l.getD h bu).Z3==3))).length:Nat):Int):=by induction a with|nil=>simp|cons h r d=>{intro v e q f;rw[LZ];cases q with|zero=>show _=if((l.getD h bu).Z3==3)=true then _ else _;by_cases c:((l.getD h bu).Z3==3)=true;{simp_all};simp_all|succ q=>have b:q<r.length:=(by grind);cases c:((l.getD h bu).Z3==3);{grind};{rw[VQ rfl,YA,YA,d _ _ _ b,List.take_succ_cons,Xv (p:=λh=>(l.getD h bu).Z3==3) c,XU (by grind),Ws];grind}}
theorem oj{l:List Q}(h:mQ l S):(dh (aH l S)).which=LZ l (ae l S) 0 0:=by (have a:bR l S=dt (l[S]'h.ha):=by grind [bR]);unfold dh im;rw[WN];unfold aH;rw[Xo,Xo];simp[List.foldl_cons,List.foldl_nil,a];rw[qe _ (λp b=>(h.prs p b).1),uX h.Zad h.isa];(show(((ae l S).map (bR l)).foldl (λf x=>cO f (aL x)) lJ).which=_);rw[IE l _ h.hyp];rfl
theorem LF(d:a.size<=1024)(g:dV a=false):(bz a).2.ZZ.length<=4104:=by (have c:∀j,j < [((⟨#[109]⟩:Vq),a)].length->(aw [(⟨#[109]⟩,a)] j).size<=1024:=λj l=>by (have:j=0:=by grind);subst this;exact d);(have⟨_,_,m,f,o⟩:=(Lf [(⟨#[109]⟩,a)] c 5000).2 0 Hp bK 0 rfl Gd.empty;have k:=xd [(⟨#[109]⟩,a)] c Hp;have i:m<=4104:=by omega);(have n:=f.bnd.ZZ;have e:=kV [(⟨#[109]⟩,a)] 0 (by simp) d (tS a g);unfold d8 at e;have b:((dz [((⟨#[109]⟩:Vq),a)] 5000 0 Hp bK).2.2.ZZ).length<=4104:=by omega);rw[e]at b;exact b
theorem zdy(c:dE y):FlD (bz y).2:=by refine⟨λn s h k=>((uN y).ZZ s (by grind)).two k,λn m s u a b g i d f=>?_,λk=>?_⟩;{exact Wi.2 (λe=>(oX y).ds n m s u a b g i d f (dN e))};{have:=c.idle.1.Z3;omega}
def lbF(z:Vq)(f:Fm)(x:Vq):Vq:=match aU f.hyps x with
 | none=>x
 | some q=>pN z f.which q ⟨#[120]⟩
theorem DW(s:Vq)(h:D<S):gD (i8 a s S) D=Cf a s D:=by grind [gD,i8]
theorem zbI(l:lI y M)(d g:Vs)(m:d.length<=4200):dS d (i8 M ⟨#[120]⟩ d.length) g=g.map (rnS M d):=by unfold dS;rw[List.map_eq_flatMap];congr 1;funext x;unfold jP rnS;cases k:aU d x with|none=>rfl|some i=>have j:=kT k;simp only;have f:=(gx l (dJ 120 i) (zcR (by omega))).1;rw[DW _ _ j,zcW,VI,iG _ f.noBl];intro c;have:=f.1;have e:=dN (a:=nm M (dJ 120 i)) (b:=⟨#[]⟩) (by simp_all);rw[e]at this;exact absurd this (Nat.lt_irrefl 0)
section
variable {T z:Vq} {k:Nat}
theorem Cv(b:dE T){s:Q}(h:(bz T).2.ZZ[S]?=some s)(d:2<=s.Z3/\s.Z3<=5):OU (bH s)/\bi (bz T).2.ZK (bH s)=true:=by (have N:=ft T b.size;have⟨c,r,e,a⟩:=(N.ZZ s (by grind)).code d;have t:bH s=c:=by grind [bH]);rw[t];exact⟨N.con c ((gH ..).1 a),a⟩
theorem R6(e:dE T)(k:Nat):∀t∈bm (bz T).2.ZZ k,OU t/\bi (bz T).2.ZK t=true:=by intro t b;obtain⟨h,a,rfl⟩:=VK.1 b;obtain⟨-,c,d⟩:=za1 a;grind [Cv,lo]
end
theorem zcY(a:Vu):∀(v e q:Nat),(-1-(e:Int)-a.length)<=(LZ l a v e).getD q 0/\(LZ l a v e).getD q 0<=(v:Int)+a.length:=by induction a with|nil=>grind [LZ]|cons h r b=>intro v e q;rw[LZ];split;{cases q with|zero=>simp[List.getD_cons_zero,List.length_cons];omega|succ q=>rw[YA,Ws];grind};{cases q with|zero=>grind|succ q=>rw[YA,Ws];have:=b (v+1) e q;omega}
def LS(w:World)(n:Nat):World:={ w with heap:=w.heap.extract 0 n }
section
variable {w v w':World} {n:Nat}
theorem xt(h:n<=w.heap.size):(LS w n).heap.size=n:=by unfold LS;grind
theorem R2(h:n<=w.heap.size)(a:S<n):(LS w n).heap[S]?=w.heap[S]?:=by grind [LS]
theorem Vk(h:n<=w.heap.size):aW (LS w n) w:=⟨rfl,rfl,rfl,by rwa [xt h],by grind [xt,R2]⟩
theorem aa.tn{S:Vu}(k:aa S v w)(b:v.heap.size<=n)(h:n<=w.heap.size):aa S v (LS w n):=⟨k.os,k.tape,k.output,by rwa [xt h],λi a c=>(R2 h (VW a b)).trans (k.block i a c)⟩
end
section
variable {b x gr g F n B:Nat} {T lab:Vq} {lv:Value} {f:Fm} {es:List Ex} {hg:Hd} {Hf H H':Nat->Hd} {L:Vs} {v w w':World} {k k':Bk}
end
theorem ML(v:dP o I d)(f:1<=d.length):∃c k,I.ao=some (aq c k)/\c<o.heap.size/\d.length<=I.cap/\I.cap<=9223372036854775807/\(I.cap=1->d.drop 1=[])/\dP o ⟨some (aq c (k+1)),I.cap-1⟩ (d.drop 1):=by rcases v with l | ⟨g,a,b,t,m,e,n,p,q⟩;{rw[l]at f;simp at f};{refine⟨g,a,m,am e,p,q,λh=>Wx (by rw[Xf];omega),VH ⟨g,a+1,b,t,rfl,e,λj x i=>?_,?_,?_⟩⟩;{rw[Y6]at i;rw[show a+1+j=a+(1+j) by omega];exact n (1+j) x i};{grind};grind}
def mxL(z:Vq)(f:Fm)(ws:Vs)(j:Nat):Vs:=(ws.take j).map (lbF z f)++ws.drop j
section
variable {z:Vq} {f:Fm} {ws:Vs} {j:Nat}
theorem zcv(h:j<ws.length):(mxL z f ws j)[j]?=some ws[j]:=by grind [mxL]
theorem Ue(h:j<ws.length):mxL z f ws (j+1)=(mxL z f ws j).set j (lbF z f ws[j]):=by (unfold mxL;rw[Wt h,Wj h,VU,Wg,List.set_append_right _ _ (by grind)];have e:j-((ws.take j).map (lbF z f)).length=0:=by grind);grind
theorem zdi(h:j<ws.length)(e:lbF z f ws[j]=ws[j]):mxL z f ws (j+1)=mxL z f ws j:=by rw[Ue h,e];refine WZ (λi=>?_);grind [zcv]
end
theorem zaj(h:pW o (some S) d)(a:d.length<=10000):dP o ⟨some (aC S),d.length⟩ d :=
 VH ⟨S,0,_,_,rfl,h.Z1 S rfl,by grind [strs],Vy _,by grind⟩
section
variable {b x gr n:Nat} {T U z code:Vq} {ao:Vt} {m:Nat} {ee:Int} {w w':World}
end
def zaM(b x:Nat)(T:Vq)(o:Option Nat)(w:World)(e:Ending)(w':World):Prop :=
 (aa [x] w w'/\aP w' b x T o/\∃fs',cI w' x fs'/\wm 0 fs')/\(e=dw (tuple #[pointer none,bool true])∨∃n B H F g es hg Hf,(n<=1024/\¬rD T (zF n))/\e=dw (tuple #[bS B,bool true])/\w.heap.size<=B/\aa [x] w (LS w' B)/\aP (LS w' B) b x T o/\Es x T (zF n) (LS w' B)/\fw (LS w' B) F w.heap.size (nm (zF n) [97]) (Y (some (aC g)) (bQ T (zF n)).length (bQ T (zF n)).length) (dh (bQ T (zF n))) es hg Hf/\ib (LS w' B) w' B (oq (zF n) F (dh (bQ T (zF n))).hyps) H/\(dh (bQ T (zF n))).hyps.length<=200000000/\dH (LS w' B) g (bQ T (zF n)) (bQ T (zF n)).length/\w.heap.size<=g)
theorem O3{n B F g:Nat}{G:Option Nat}{j z p:World}{A:List Ex}{x:Nat->Hd}{b:Vt}{a:Nat}(N:n<=1024)(t:¬rD y (zF n))(M:aa [D] o j/\aP j S D y G/\∃f,cI j D f/\wm 0 f)(l:fw j F o.heap.size (nm (zF n) [97]) (Y (some (aC g)) (bQ y (zF n)).length (bQ y (zF n)).length) (dh (bQ y (zF n))) A I x/\dH j g (bQ y (zF n)) (bQ y (zF n)).length/\o.heap.size<=g)(s:o.heap.size<=B)(R:j.heap.size=B)(k:aW j z)(r:aJ p B 78 ((wA (oq (zF n) F []) fn).set 5 (Y b d.length a)) (lX (oq (zF n) F d)) (dY fn 0 ⟨b,a⟩)/\aj B z fn p (dY fn 0 ⟨b,a⟩))(C:(dh (bQ y (zF n))).hyps=d)(v:d.length<=200000000)(u:Es D y (zF n) j):zaM S D y G o (dw (tuple #[bS B,bool true])) p:=by (have E:∀m,¬eD fn m:=by rintro m ⟨i,e⟩;simp[fn,Hd.Z1]at e);(have K:=k.turned r.2 (by omega) (λm d=>absurd d (E m));have w:B<=p.heap.size:=by have:=K.size;omega);have q:aW j (LS p B):=K.tn (by omega) w;obtain⟨H,L,f,O,P⟩:=M;refine⟨⟨H.trans (K.mono (by simp)),L.ZN K,f,O.Z0 K (by simp),P⟩,VH ⟨n,B,dY fn 0 ⟨b,a⟩,F,g,A,I,x,⟨N,t⟩,rfl,s,H.trans (q.mono (by simp)),L.ZN q,u.ZN q,l.1.ZN q,⟨?_,?_,Vk w⟩,by rw[C];exact v,dH.Z0 l.2.1 q (by simp),l.2.2⟩⟩;{rw[C];exact r.1};{rw[xt w];refine⟨Vy _,λm d=>?_⟩;rcases r.2.2 m d with c | c;{exact absurd c (E m)};{have:=k.size;omega}}
set_option maxRecDepth 100000
theorem Ii(b x:Nat)(T:Vq)(o:Option Nat)(V:Fs)(w:World)(hW:aP w b x T o)(hV:cI w x V)(hM:wm 0 V)(hx:x≠b)(hT:dE T) :
  bF 22 #[bS b] w λe w'=>zaM b x T o w e w':=by obtain⟨iS,ah,y,z,A⟩:=Wh fD;have H:Z _:=MH b x T o w hW hT;go_enter func22,ntmps22;go_upto_region 2 with (go_at_call 60;refine VP H ?_;rintro e w1 ⟨n,hn,rfl,s,k1⟩);have L:Z _:=(Qz b x T (zF n) o V w1 (hW.ZN k1) (hV.Z0 k1 (by simp)) hM hx hT (Kt T n hn s));have R:Z _:=k1;go_wp2_with fail;refine VP L ?_;rintro e c ⟨⟨k2,W2,X,V2,M2⟩,hc⟩;have D:Z (aa [x] w c/\aP c b x T o/\∃q,cI c x q/\wm 0 q):=⟨(R.o.mono (by simp)).trans k2,W2,X,V2,M2⟩;rcases hc with rfl | ⟨F,g,es,hg,d,rfl,hF,hl,ag,v,ai⟩;{go_wp2;go_ret2;exact⟨D,VR rfl⟩};{obtain⟨W,O⟩:∃W,Z (c.alloc (aM #[an (zF n),bS F,cL,cL,cL,Y none 0 0,Y none 0 0,bool false,bool false,Y none 0 0,cL,Y none 0 0,cL,Y none 0 0,Y none 0 0,Y none 0 0,Y none 0 0,Y none 0 0,bool false] 78)=W):=⟨_,rfl⟩;(have kW:=iV O;have r:sS W c.heap.size (oq (zF n) F []) fn:=Tg (by rw[<-O.o];exact VB _ _);have k:=hF.ZN kW;obtain⟨B,m⟩:=bX (c.heap.size);rw[m.o]at r;have z5:W.cell? (aq B 5)=some (Y none 0 0):=by rw[r.cell];rfl);(have y2:W.cell? (aq F 2)=some (Y (d 0).ao (dh (bQ T (zF n))).hyps.length (d 0).cap):=by rw[k.bag.cell];rfl);(have ak:=r.lt;have av:=k.bag.lt;have ax:∀i,W.frozen? (aq B i)=false:=λi=>r.free i;have ap:F≠B:=by have:=hF.bag.lt;have:=m.o;omega);(obtain⟨a,P⟩:=bX ((dh (bQ T (zF n))).hyps);have o0:aD W (d 0) (rowS a):=by rw[<-P.o];exact k.bag.Zad 0);(rw[P.o]at y2 v;have HN:Z ((d 0).ao=none->a.length=0/\(d 0).cap=0):=λe=>by rcases o0.ZY with ⟨e0,h0,-⟩ | ⟨gg,U,l,-⟩;{exact⟨h0,by rw[e0]⟩};{rw[l]at e;cases e});(have HC:Z (∀S,(d 0).ao=some S->∀j u,(strs a)[j]?=some u->W.drew.cell? (S.add j)=some u):=λS e j u hj=>by have o1:=o0.ZN (aa.refl [] W).drew;rcases o1.ZY with ⟨l,-,-⟩ | ⟨gg,U,l,-⟩;{rw[l]at e;cases e};{rw[l]at e;cases e;rw[bw];exact o1.cell l j u hj});(have C:Z _:=aJ.ZN r (aa.refl [] W).drew;have K:Z (aD W.drew (⟨none,0⟩:Hd) (rowS [])):=VS _ _ _ _;have N:Z (∀h:Nat,(⟨(rowS []).e,(rowS []).size,(rowS []).n+a.length,(rowS []).xs++strs a⟩:fY)=rowS a):=λ_=>by simp[rowS,strs]);(have HZ:Z ((rowS []).n+a.length=a.length):=dL (by simp[rowS]);have G:Z (fw c F w.heap.size (nm (zF n) [97]) (Y (some (aC g)) (bQ T (zF n)).length (bQ T (zF n)).length) (dh (bQ T (zF n))) es hg d/\dH c g (bQ T (zF n)) (bQ T (zF n)).length/\w.heap.size<=g):=⟨hF.down R.o.size,hl,V9 R.o.size ag⟩;have E:Z (w.heap.size<=B):=by show _<=B;have:=m.o;have:=D.1.size;omega);have I:Z (aW c W.drew):=kW.drew;have af:=C.o.lt;have M:=(show Z (Es x T (zF n) c) from ai);(go_upto_region 6 with fail);rw[O.o,m.o];go_region_law (refine qK rfl (.tmp 27) (.tmp 31) 22 rfl iS (cL) 16 ⟨none,0⟩ (rowS []) underlying22 ah y z A rfl VL (by simp[Act.eval] <;> rfl) K (d 0).ao a.length (d 0).cap (strs a) (by simp[Act.eval]) (by simp[rowS,strs]) HN HC (fI a) (by simp only[rowS];show 0+_<=_;omega) (by omega) ?_;intro p f w5 t rJ;rw[N.o 0]at t;rw[HZ.o];have HP:Z _:=aJ.ZX C (rows':=lX (oq (zF n) F a)) 5 0 ⟨p,f⟩ t rJ (O4 _ _ _ _) (Y p a.length f);have q5:=rJ.Z0.block B af (by simp[Hd.Z1]);have c5:w5.cell? (aq B 5)=some (Y none 0 0):=(Xp q5).trans (C.o.cell 5);have f5:∀i,w5.frozen? (aq B i)=false:=λi=>ay (q5.trans C.o.Z1) i);(all_goals go_wp2);(all_goals go_ret2);all_goals exact O3 hn s D G E m I HP P v M}
end Go.Proofs.YtnbalopedcgpcaaGreat

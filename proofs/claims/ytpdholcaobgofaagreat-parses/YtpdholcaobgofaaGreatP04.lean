import Derived.Test.YtpdholcaobgofaaGreatP03
namespace Go.Proofs.YtpdholcaobgofaaGreat
open Go.RowKit Tryz
open Value IntKind Ending
set_option linter.all false
set_option maxHeartbeats 0
variable{M:Db}{f o yt y7 x3:Nat}{T L z5:World}{z6 y3:List Value}{x g x0:Nat->U}{z7:VB}{x1:Fs}{x2:List Bool}{yd yg:Vx}{c:List St}{yv:Nat->Bool}{yr:U}{y8:Vy}(q t y1 I S y H:Nat)(l:Fs)(zt:List Value)(k:List Bool)(zf:List Value)(z4:Db)(y0:Vx)(D:List St)(z:Nat->U)(yz y4:Vx)(yu:Int)(m:St)(y2 y5:U)(z8:Vy)(u:Vx)(i:World)(x4 x5 x6 x7:Value)(ys s:Nat)(y9:Pl)
structure rx(d:Db)(m:Nat):Prop where
  YP:d.YP.length<=m
  YJ:d.YJ.length+d.YH.length<=m
  YK:d.YK.length+d.YH.length<=m
  YQ:d.YQ.length+d.YH.length<=m
  YT:d.YT.length+d.YH.length<=m
  Y3:d.Y3.length<=m
  YY:d.YY.length<=m
  YS:d.YS.length<=m
  inner:∀p,p∈d.Y3->p.1<=m/\p.2<=m
  same:d.rbl.length=d.Y3.length
  recs:∀x,x∈d.rbl->x<=d.YY.length
theorem rx.small{N:Nat}(h:rx M f)(b:f<=N):ip M N/\F7 M N :=
  ⟨⟨by have:=h.YP;omega,by have:=h.YJ;omega,by have:=h.YK;omega,by have:=h.YQ;omega,by have:=h.YT;omega,by have:=h.Y3;omega,by have:=h.YY;omega,by have:=h.Y3;have:=h.same;omega,by have:=h.YJ;omega,by have:=h.YS;omega⟩,
   ⟨λp a=>by have:=h.inner p a;omega,h.same,h.recs⟩⟩
theorem rx.mono{m':Nat}(h:rx M f)(b:f<=m'):rx M m' :=
  ⟨by have:=h.YP;omega,by have:=h.YJ;omega,by have:=h.YK;omega,by have:=h.YQ;omega,by have:=h.YT;omega,by have:=h.Y3;omega,by have:=h.YY;omega,by have:=h.YS;omega,λp a=>by have:=h.inner p a;omega,h.same,h.recs⟩
theorem rx.empty:rx il 0:=by refine⟨?_,?_,?_,?_,?_,?_,?_,?_,?_,?_,?_⟩ <;> simp[il]
theorem rx.plain(h:rx M f)(k:Int)(l:Vx)(b:Bool):rx { M with Y1:=k,Y2:=l,YL:=b } f:=⟨h.YP,h.YJ,h.YK,h.YQ,h.YT,h.Y3,h.YY,h.YS,h.inner,h.same,h.recs⟩
theorem At:(kL D s).length=D.length:=l9 D s D.length
theorem rx.declare(h:rx M f)(p:Pl):rx { bK M p with Y1:=0,Y2:=⟨#[]⟩,YH:=[],YL:=false,YS:=[] } (f+1):=by have d:=h.YJ;have e:=h.YK;have g:=h.YQ;have i:=h.YT;have a:=h.mono (XX f);unfold bK;split;{exact⟨a.YP,by grind,by grind,by grind,by grind,a.Y3,a.YY,by simp,a.inner,a.same,a.recs⟩};{split;{have:=Js M.YK (M.YH.take M.YH.length);simp[List.take_length]at this;exact⟨a.YP,by simp[fD];omega,by simp[fD];omega,by simp[fD];omega,by simp[fD];omega,a.Y3,a.YY,by simp,a.inner,a.same,a.recs⟩};{unfold kj pn;have:=h.YY;split;{next j=>exact⟨a.YP,by grind,by grind,by grind,by grind,a.Y3,by grind,by simp,a.inner,a.same,λx b=>by have:=h.recs x b;grind⟩};{exact⟨a.YP,by grind,by grind,by grind,by grind,a.Y3,by grind,by simp,a.inner,a.same,λx b=>by have:=h.recs x b;grind⟩}}}
theorem rx.take(h:rx M f)(x:Vx)(o:Pl):rx (bD M x o).2 (f+1):=by (have a:=h.mono (XX f);have b:=λk=>a.plain k M.Y2 M.YL;have r:=h.YP;have s:=h.YJ;have t:=h.YK;have u:=h.YQ;have v:=h.YT;have w:=h.Y3;have j:rx (cG M x).2 (f+1):=by unfold cG;split;{exact a};{split;{exact a};{split;{exact a};{exact⟨by grind,a.YJ,a.YK,a.YQ,a.YT,a.Y3,a.YY,a.YS,a.inner,a.same,a.recs⟩}}});(have i:rx (aV M x).2 (f+1):=by unfold aV;split;{exact b 2};{split;{exact b 3};{split;{exact b 4};{split;{exact b 5};{exact a}}}});(have g:rx (aH M x).2 (f+1):=by unfold aH;split;{refine⟨a.YP,a.YJ,a.YK,a.YQ,a.YT,by grind,a.YY,a.YS,?_,by simp[h.same],?_⟩;{intro p l;simp[List.mem_append,List.mem_singleton]at l;rcases l with l | rfl;{exact a.inner p l};omega};{intro y c;simp[List.mem_append,List.mem_singleton]at c;rcases c with c | rfl;{exact h.recs y c};simp}};{split;{split;{exact a};{next p l => (unfold dG;have n:M.rbl≠[]:=by intro e;have:=h.same;grind);have⟨y,c⟩:∃y,M.rbl.getLast?=some y:=⟨_,Xq n⟩;rw[c];refine⟨a.YP,a.YJ,a.YK,?_,?_,?_,?_,a.YS,?_,?_,?_⟩;{grind [eJ]};{grind [eJ]};{grind [eJ]};{show(kL M.YY y).length<=_;rw[At];exact a.YY};{intro q m;simp[eJ]at m;exact a.inner q (XY _ m)};{simp[eJ,List.length_dropLast,h.same]};{intro q m;show q<=(kL M.YY y).length;rw[At];exact h.recs q (XY _ m)}}};{split;{split;{exact a};{exact b 7}};{split;{exact b 8};{split;{exact b 1};{split;{exact a};{exact j}}}}}});(have d:rx (na M o).2 (f+1):=by unfold na;split;{exact a};{split;{exact a};{exact h.declare o}});unfold bD;split;{exact g};{split;{exact i};{split;{exact d};{split;{unfold dj;split;{exact a};{exact a.plain M.Y1 M.Y2 true}};{split;{exact a};{split;{exact⟨a.YP,a.YJ,a.YK,a.YQ,a.YT,a.Y3,a.YY,by have:=h.YS;grind,a.inner,a.same,a.recs⟩};{split;{exact⟨a.YP,by grind,by grind,by grind,by grind,a.Y3,a.YY,a.YS,a.inner,a.same,a.recs⟩};{exact a}}}}}}}
def U6(fs:Fs)(bg:List Bool)(j:Nat):Nat:=if bg.getD j true=true then 0 else(ak fs j).size+2
def gI(fs:Fs)(bg:List Bool):Nat:=U6 fs bg 0+U6 fs bg 1+U6 fs bg 2+U6 fs bg 3
theorem Bc(e:k.length=4)(f:k.getD s true=false):gI l (k.set s true)+(ak l s).size+2=gI l k:=by
  match k,e with
  | [a,b,c,d],_ =>
    match s with
    | 0=>grind [gI,U6]
    | 1=>grind [gI,U6]
    | 2=>grind [gI,U6]
    | 3=>grind [gI,U6]
    | s+4=>grind
def Kin(fs:Fs)(bg:List Bool)(m:Nat)(r:Mo):Prop :=
  r.2.1.length=4/\gI fs r.2.1<=gI fs bg/\∃m',rx r.2.2 m'/\m'+gI fs r.2.1<=m+gI fs bg
theorem Jh(i:∀j a d m,a.length=4->rx d m->Kin l a m (dB l s j a d))(x k:Nat)(a:List Bool)(d:Db)(m:Nat)(n:k<=(ak l x).size)(f:a.length=4)(e:rx d m)(o:aZ (aM (ak l x) k).1=true) :
    Kin l a (m+1) (iG l s x k a d).1/\k<(iG l s x k a d).2/\(iG l s x k a d).2<=(ak l x).size:=by have g:=jh (ak l x) k n;have b:=g.2.2 o;unfold iG lK;split;{unfold pX;split;{exact⟨⟨f,VC _,m,e,by simp only;omega⟩,b,g.2.1⟩};{next j u p => have c:=i j a d m f e;refine⟨⟨c.1,c.2.1,?_⟩,?_⟩;{have⟨q,r,t⟩:=c.2.2;grind};grind [vN,jh,ak,aM]}};{exact⟨⟨f,VC _,m+1,e.take ..,by simp⟩,b,g.2.1⟩}
theorem Sf(f:Nat):(∀x k a d m,k<=(ak l x).size->a.length=4->rx d m->(cQ l f x k a d).2.1.length=4/\gI l (cQ l f x k a d).2.1<=gI l a/\∃b,rx (cQ l f x k a d).2.2 b/\b+gI l (cQ l f x k a d).2.1<=m+((ak l x).size-k)+gI l a) /\
    (∀j a d m,a.length=4->rx d m->Kin l a m (dB l f j a d)):=by
  have g:∀f,(∀x k a d m,k<=(ak l x).size->a.length=4->rx d m->(cQ l f x k a d).2.1.length=4/\gI l (cQ l f x k a d).2.1<=gI l a/\∃b,rx (cQ l f x k a d).2.2 b/\b+gI l (cQ l f x k a d).2.1<=m+((ak l x).size-k)+gI l a) ->
      (∀j a d m,a.length=4->rx d m->Kin l a m (dB l f j a d)):=by
    intro f h j a d m e c;unfold dB;split
    · exact⟨e,VC _,m,c,VC _⟩
    · next w =>
      have i:a.getD j true=false:=(by grind);have y:=Bc l a j e i;have:=h j 0 (a.set j true) d m (V5 _) (by grind) c;refine⟨this.1,by omega,?_⟩
      grind
  induction f with
  | zero =>
    (grind [ak,cQ,gI])
  | succ f p =>
    (have v:∀x k a d m,k<=(ak l x).size->a.length=4->rx d m->(cQ l (f+1) x k a d).2.1.length=4/\gI l (cQ l (f+1) x k a d).2.1<=gI l a/\∃b,rx (cQ l (f+1) x k a d).2.2 b/\b+gI l (cQ l (f+1) x k a d).2.1<=m+((ak l x).size-k)+gI l a:=by intro x k a d m q e c;cases o:aZ (aM (ak l x) k).1 with|true=>{have⟨⟨s,E,r,t,F⟩,G,u⟩:=Jh l f p.2 x k a d m q e c o;cases n:((iG l f x k a d).1.1.1==0) with|true=>rw[Dm l f x k a d o n];have⟨A,B,z,C,D⟩:=p.1 x (iG l f x k a d).2 (iG l f x k a d).1.2.1 (iG l f x k a d).1.2.2 r u s t;grind|false=>grind [rH]}|false=>by_cases n:(aM (ak l x) k).1.Y5=true/\mS d=false;{grind [EW]};grind [AI]);(grind)
theorem CD(k:Nat)(a:u.size<=1024):(bV u k).1.text.size<=1024:=by unfold bV;generalize u.size-k+1=f;induction f generalizing k with|zero=>simp[dn,ByteArray.size]|succ f b=>rw[dn];split;{split;{simp[ByteArray.size]};grind};{split;{simp[ByteArray.size]};grind [uK]}
theorem vR(k:Nat)(a:u.size<=1024):(aM u k).1.text.size<=1024:=by unfold aM;generalize u.size-k+1=f;induction f generalizing k with|zero=>simp[fB,ByteArray.size]|succ f b=>grind [fB,CD,uK]
theorem LP:(bD z4 u y9).2.YS=z4.YS∨(bD z4 u y9).2.YS=[]∨(bD z4 u y9).2.YS=z4.YS++[(u,y9)]:=by unfold bD;split;{left;unfold aH;split;{rfl};{split;{split;{rfl};{unfold dG;split <;> rfl}};grind [cG]}};grind [aV,na,dj]
theorem UD:(bD z4 u y9).2.YY=z4.YY∨(∃y∈z4.rbl,(bD z4 u y9).2.YY=kL z4.YY y)∨((bD z4 u y9).2.YY=z4.YY++[⟨z4.Y1,z4.Y2,z4.YH,z4.YS,y9,0⟩]/\0<z4.YH.length):=by unfold bD;split;{unfold aH;split;{left;rfl};{split;{split;{left;rfl};{unfold dG;split;{left;rfl};grind}};grind [cG]}};{split;{grind [aV]};{split;{unfold na;split;{left;rfl};{next b => (have a:0<z4.YH.length:=by grind [or]);split;{left;rfl};{unfold bK;split;{left;rfl};{split;{left;rfl};{right;right;refine⟨?_,a⟩;unfold kj;split <;> rfl}}}}};grind [dj]}}
structure Ext(S:List St)(d:Db):Prop where
 pre:∃m,d.YY=S++m
 rbl:∀y∈d.rbl,S.length<=y
structure Rw where
 Y2:Vx
 YN:Int
 why:Int
 at_:Pl
def pZ(r:Rw):List Value:=[Y r.Y2,J r.YN,J r.why,Y r.at_.Y6,J r.at_.Y7,J r.at_.Y8]
def mO(l:List Rw):List Value:=l.flatMap pZ
def mM:Pl:=⟨⟨#[]⟩,0,0⟩
def uh:Rw:=⟨⟨#[]⟩,0,0,mM⟩
theorem zdW:(prog.info? 38).map (λi=>(i.zero,i.size,i.bytes))=some (some (agg #[bN,J 0,J 0,bN,J 0,J 0]),6,64):=by kernel_rfl
theorem I6(l:List Rw):(mO l).length=l.length*6:=by induction l with|nil=>rfl|cons x r a=>have e:mO (x :: r)=pZ x++mO r:=rfl;rw[e,VQ,a];simp[pZ];omega
theorem Nv(l:List Rw)(k:Nat)(b:k<l.length)(j:Nat)(a:j<6):(mO l)[k*6+j]?=(pZ l[k])[j]?:=by induction l generalizing k with|nil=>grind|cons s r c=>{have e:mO (s :: r)=pZ s++mO r:=rfl;rw[e];cases k with|zero=>grind [pZ]|succ k=>grind [pZ]}
def QZ(p:Pl):Prop:=-1000000000<=p.Y7/\p.Y7<=1000000000
structure zeG(L:List Rw):Prop where
 len:L.length<=100000
 Y7:∀r∈L,QZ r.at_
theorem qh(l c:Int)(f:Bool)(w:World) :
  aU 158 #[agg #[Y yz,J yu,bool f,Y y4,J l,J c]] w (kt (agg #[J (if f=true then 7 else yu),Y y4,J l,J c]) w):=by cases f;{go_enter func158,ntmps158;go_wp2;exact VJ (v:=agg #[J yu,Y y4,J l,J c]) (by simp[results,results158,go_sem]) rfl ⟨rfl,((O.refl ..).alloc _).alloc _⟩};{go_enter func158,ntmps158;go_wp2;exact VJ (v:=agg #[J 7,Y y4,J l,J c]) (by simp[results,results158,go_sem]) rfl ⟨rfl,((O.refl ..).alloc _).alloc _⟩}
def fG(v:Nat)(bg:List Bool):List Value:=bh v :: bg.map bool
theorem kZ(h:k.length=4):(fG H k).length=5:=by simp[fG,h]
theorem bu.pre(h:bu T f o z6 y3 M x)(i:Nat)(a:i<z6.length)(u:Value) :
  bu (T.setCell (X f i) u) f o (z6.set i u) y3 M x/\aA f T x (T.setCell (X f i) u) x:=by refine⟨⟨?_,?_,h.apart,h.off⟩,(fw.refl ..).setCell (by simp) _,by grind⟩;{rw[ab h.Y0,Wd,List.set_append_left _ _ a]};{intro j;refine(h.Za j).YR (λk b=>VN _ _ _ _ ?_);rintro rfl;exact h.off j b}
theorem bu.preCell(h:bu T f o z6 y3 M x)(i:Nat)(a:i<z6.length):T.cell? (X f i)=z6[i]?:=by rw[aC h.Y0];grind
def io(b sp:Nat)(w:World)(H:Nat->U)(w':World)(H':Nat->U):Prop :=
 fw (λk=>k=b∨k=sp∨eU H k) w w'/\∀k,eU H' k->eU H k∨w.heap.size<=k
theorem aA.YR{w':World}(t:aA f T x w' g):io f s T x w' g :=
 ⟨⟨t.1.os,t.1.tape,t.1.output,t.1.size,λk a b=>t.1.block k a (by grind)⟩,t.2⟩
theorem io.trans{w1:World}(a:io f o T x w1 g)(c:io f o w1 g L x0):io f o T x L x0:=by refine⟨⟨c.1.os.trans a.1.os,c.1.tape.trans a.1.tape,c.1.output.trans a.1.output,VK a.1.size c.1.size,?_⟩,?_⟩;{intro k b i;rw[<-a.1.block k b i];refine c.1.block k (VG b a.1.size) ?_;rintro (e | e | d);{omega};{omega};{rcases a.2 k d with h | h;{grind};{omega}}};{intro k b;rcases c.2 k b with h | h;{exact a.2 k h};{exact VW (VK a.1.size h)}}
theorem io.refl(a:Nat->U):io y H i a i a:=⟨fw.refl ..,λ_ b=>VY b⟩
theorem io.YM(a:io f o T x L g)(c:aI L z5):io f o T x z5 g :=
 a.trans ⟨c.toP (by simp),by grind⟩
theorem io.first(c:aI T L)(a:io f o L x z5 g):io f o T x z5 g :=
 io.trans ⟨c.toP (by simp),by grind⟩ a
theorem io.scan(a:io f o T x L g)(c:O [o] L z5):io f o T x z5 g :=
 a.trans ⟨c.toP (by simp),by grind⟩
theorem io.beyond(a:io f o T x L g)(k:O z7 L z5)(e:∀c,c∈z7->T.heap.size<=c):io f o T x z5 g :=
 ⟨⟨k.os.trans a.1.os,k.tape.trans a.1.tape,k.output.trans a.1.output,VK a.1.size k.size,λi b d=>by
  rw[<-a.1.block i b d];exact k.block i (VG b a.1.size) (by grind)⟩,a.2⟩
theorem io.fresh(a:io f o T x L g)(F:Nat)(c:F<T.heap.size)(d:¬eU x F):¬eU g F:=by intro b;rcases a.2 F b with h | h;{grind};{omega}
theorem aA.fresh(a:aA f T x L g)(F:Nat)(c:F<T.heap.size)(d:¬eU x F):¬eU g F:=by intro b;rcases a.2 F b with h | h;{grind};{omega}
theorem kV{w:World}{r:Nat}:O [r] w ((((w.setCell (aE r) x4).setCell (X r 1) x5).setCell (X r 2) x6).setCell (X r 3) x7) :=
 ((((O.refl ..).sl1 _).sl1 _).sl1 _).sl1 _
theorem Lv(a b:Value):O [f] T ((((((T.setCell (aE f) x4).setCell (X f 1) x5).setCell (X f 2) x6).setCell (X f 3) x7).setCell (X f 4) a).setCell (X f 5) b) :=
 ((((((O.refl ..).sl1 _).sl1 _).sl1 _).sl1 _).sl1 _).sl1 _
def bX:Array Value:=#[J 0,bN,J 0,J 0]
theorem dx(h:T.heap[f]?=some (aJ bX 87)) :
  aP T f 0 (J 0)/\aP T f 1 (bN)/\aP T f 2 (J 0)/\aP T f 3 (J 0):=by refine⟨?_,?_,?_,?_⟩ <;> exact bR h rfl
theorem qO{F:Nat}(D:bu L f o z6 y3 M g)(b:aA f T x L g)(a:T.heap.size<=F)(j:f≠F)(k:¬eU g F)(c d e i:Value) :
  bu ((((L.setCell (aE F) c).setCell (X F 1) d).setCell (X F 2) e).setCell (X F 3) i) f o z6 y3 M g /\
  aA f T x ((((L.setCell (aE F) c).setCell (X F 1) d).setCell (X F 2) e).setCell (X F 3) i) g:=by refine⟨D.YZ (kV ..) (by grind) (by grind),?_,b.2⟩;exact(((b.1.setCell (VW a) _).setCell (VW a) _).setCell (VW a) _).setCell (VW a) _
set_option maxRecDepth 100000
theorem ym(C:k.length=4)(d:Db)(m:Nat->U)(sp:Value)(x n:Vx)(l c:Int)(w:World)(h:bu w S y (fG H k) [] d m)(hs:ip d 10000000)(hx:x.size<=1073741824)(hi:F7 d 100000000)(hn:(x.toList == [36,91])=false) :
  aU 156 #[bh S,sp,agg #[Y x,J 0,bool false,Y n,J l,J c]] w λe g =>
   e=cM (jx (if((bD d x ⟨n,l,c⟩).1==0)=true then ew else((bD d x ⟨n,l,c⟩).1,⟨n,l,c⟩))) /\
   ∃N,bu g S y (fG H k) [] (bD d x ⟨n,l,c⟩).2 N/\aA S w m g N:=by
 have ad:=h.lt;have B:=λ(g:World) (h':bu g S y (fG H k) [] d m)=>UA S y 5 (fG H k) [] d m x n l c g h' (kZ H k C) hs hx hi;unfold jQ at B;have s:Z _:=B;clear B;generalize bD d x ⟨n,l,c⟩=td at *;have⟨r,d'⟩:=td;simp only at s;have⟨W,z⟩:∃W,W=((w.alloc (aJ #[Y x,J 0,bool false,Y n,J l,J c] 255)).alloc (aJ #[J 0,bN,J 0,J 0] 87)):=⟨_,rfl⟩;(have V:aI w W:=by rw[z];exact((O.refl [] w).alloc _).alloc _);(have P:=h.YM V;have T:W.heap[w.heap.size]?=some (aJ #[Y x,J 0,bool false,Y n,J l,J c] 255):=by rw[z];exact(bQ.alloc _).gt (VD ..));(have R:W.heap[w.heap.size+1]?=some (aJ bX 87):=by rw[z];have:=VD (w.alloc (aJ #[Y x,J 0,bool false,Y n,J l,J c] 255)) (aJ #[J 0,bN,J 0,J 0] 87);simpa [bX] using this);(have q:Z (∀A,w.heap.size<=A->¬(A=S∨eU m A)):=by rintro A hk (e | D);{omega};{have:=h.inlt D;omega});have HW:Z _:=z.symm;clear z h;have⟨i0,_,_,i3,i4,i5⟩:=Oa T
 have u:=(show Z _ from λ(a:World) (b:Nat->U) (t:bu a S y (fG H k) [] d' b) (f:aA S W.drew m a b) (a0 a1 a2 a3:Value) =>
  qO t ((f.first (O.refl [] W).drew).first V) (F:=w.heap.size+1) (by omega) (by omega) (f.fresh (w.heap.size+1) (by exact ae R) (λD=>q (w.heap.size+1) (by omega) (VW D))) a0 a1 a2 a3)
 have p:Z _:=λ(a:World) (b:Nat->U) (f:aA S W.drew m a b)=>(show _/\_ from⟨f.1.get (by exact T) (q _ (VC _)),f.1.get (by exact R) (q _ (by omega))⟩);(have M:∀(a:World) (b:Nat->U) (_:aA S W.drew m a b),a.cell? (aE w.heap.size)=some (Y x)/\a.cell? (X w.heap.size 3)=some (Y n)/\a.cell? (X w.heap.size 4)=some (J l)/\a.cell? (X w.heap.size 5)=some (J c):=by intro a b f;have ac:=(p a b f).1;grind [bR]);have v:Z _:=M;clear M;go_enter func156,ntmps156;go_upto_region 1 with fail;rw[HW.o];go_upto_region 3 with fail;cases hr:(r==0)
 ·(have E:(r != 0)=true:=by grind);go_region_held3 (λg=>g.cell? (aE w.heap.size)=some (Y x)/\g.cell? (X w.heap.size 3)=some (Y n)/\g.cell? (X w.heap.size 4)=some (J l)/\g.cell? (X w.heap.size 5)=some (J c)) (go_keep) (first | (go_at_call 205;refine(s _ (by exact P.YM bQ.drew)).mono ?_;rintro e a ⟨rfl,b,t,f⟩;have⟨r0,r3,r4,r5⟩:=v a b f))
  all_goals
   have j:=(p a b f).2;have i:Z _:=u a b t f;have⟨G,I,K,L⟩:=dx j;have af:=au j;go_wp2;exact VJ (v:=agg #[J r,Y n,J l,J c]) (by simp[results,results156,go_sem,G,I,K,L]) rfl
    ⟨rfl,b,(i _ _ _ _).1,(i ..).2⟩
 ·(have E:(r != 0)=false:=by grind);go_region_held3 (λg=>g.cell? (aE w.heap.size)=some (Y x)/\g.cell? (X w.heap.size 3)=some (Y n)/\g.cell? (X w.heap.size 4)=some (J l)/\g.cell? (X w.heap.size 5)=some (J c)) (go_keep) (first | (go_at_call 205;refine(s _ (by exact P.YM bQ.drew)).mono ?_;rintro e a ⟨rfl,b,t,f⟩;have⟨r0,r3,r4,r5⟩:=v a b f))
  all_goals
   have j:=(p a b f).2;have i:Z _:=u a b t f;have⟨G,I,K,L⟩:=dx j;have af:=au j;go_wp2;exact VJ (v:=agg #[J 0,bN,J 0,J 0]) (by simp[results,results156,go_sem,G,I,K,L]) rfl
    ⟨rfl,b,(i ..).1,(i ..).2⟩
def lD(b v:Nat)(fs:Fs)(f j:Nat)(bg:List Bool)(d:Db)(H:Nat->U)(w:World):Prop :=
 aU 110 #[bh b,J j] w λe w'=>e=cM (jx (dB fs f j bg d).1)/\∃H',bu w' b 200 (fG v (dB fs f j bg d).2.1) [] (dB fs f j bg d).2.2 H'/\aA b w H w' H'
theorem ma{F:Nat}(D:bu L f o z6 y3 M g)(e:io f yt T x L g)(i:T.heap.size<=F)(j:f≠F)(k:¬eU g F)(a b c d:Value) :
  bu ((((L.setCell (aE F) a).setCell (X F 1) b).setCell (X F 2) c).setCell (X F 3) d) f o z6 y3 M g /\
  io f yt T x ((((L.setCell (aE F) a).setCell (X F 1) b).setCell (X F 2) c).setCell (X F 3) d) g :=
 ⟨D.YZ (kV ..) (by grind) (by grind),e.beyond (kV ..) (by grind)⟩
theorem vg(f:Bool)(p:Nat):jx (lM y0 yz ⟨y4,yu,f,p⟩)=agg #[J (if f=true then 7 else yu),Y y0,J (bA yz p),J (bY yz p)]:=rfl
structure wo(w w':World)(b v tt sp z:Nat)(fs:Fs)(more:List Value)(bg:List Bool)(d:Db)(H:Nat->U)(n s:Vx):Prop where
 D:bu w' b 200 (fG v bg) [] d H
 TB:ce w' v tt fs more
 SC:dd w' sp n s z
 F:w'.heap[w.heap.size+1]?=some (aJ bX 87)
 M:io b sp w H w' H
theorem wo.YM(S:wo T L f o yt y7 x3 x1 z6 x2 M x yd yg)(k:aI L z5):wo T z5 f o yt y7 x3 x1 z6 x2 M x yd yg :=
 ⟨S.D.YM k,S.TB.YZ k (by simp),S.SC.YZ k (by simp),k.gt S.F,S.M.YM k⟩
theorem wo.next{a:Nat}(S:wo T L f o yt y7 x3 x1 z6 x2 M x yd yg)(k:O [y7] L z5)(b:dd z5 y7 yd yg a)(c:y7≠f)(d:o≠y7)(e:¬eU x y7)(g:y7<T.heap.size):wo T z5 f o yt y7 a x1 z6 x2 M x yd yg :=
 ⟨S.D.YZ k (by grind) (by grind),S.TB.YZ k (by grind),b,k.get S.F (by grind),S.M.scan k⟩
theorem Hz(a7:k.length=4)(d:Db)(u:Nat->U)(n s:Vx)(p c:Int)(w:World)(h:bu w q 200 (fG t k) [] d u)(hn:aO l y=n)(bs:ak l y=s)(hs:s.size<=1024)(hz:H<=s.size)(ar:dd w I n s H)(ht:ce w t y1 l zt)(am:I≠q)(bf:t≠I)(be:¬eU u I)(RF:Z (∀(j:Nat) (w':World),j<l.length->bu w' q 200 (fG t k) [] d u->ce w' t y1 l zt->lD q t l S j k d u w')) :
  aU 204 #[bh q,bh I,agg #[Y n,J p,J c]] w λe w' =>
   e=cM (jx (pX (dB l S) l y H ⟨n,p,c⟩ k d).1.1)/\∃H',bu w' q 200 (fG t (pX (dB l S) l y H ⟨n,p,c⟩ k d).1.2.1) [] (pX (dB l S) l y H ⟨n,p,c⟩ k d).1.2.2 H'/\io q I w u w' H' /\
    (((pX (dB l S) l y H ⟨n,p,c⟩ k d).1.1.1==0)=true->dd w' I n s (pX (dB l S) l y H ⟨n,p,c⟩ k d).2):=by
 have⟨W,hW⟩:∃W,W=((w.alloc (aJ #[Y n,J p,J c] 36)).alloc (aJ #[J 0,bN,J 0,J 0] 87)):=⟨_,rfl⟩;(have hK:aI w W:=by rw[hW];exact((O.refl [] w).alloc _).alloc _);(have b5:=h.lt;have ao:=ae ar;have D:bu W q 200 (fG t k) [] d u:=h.YM hK;have SC:dd W I n s H:=ar.YZ hK (by simp);have TB:ce W t y1 l zt:=ht.YZ hK (by simp);have hP:W.heap[w.heap.size]?=some (aJ #[Y n,J p,J c] 36):=by rw[hW];exact(bQ.alloc _).gt (VD ..));(have hF:W.heap[w.heap.size+1]?=some (aJ bX 87):=by rw[hW];have:=VD (w.alloc (aJ #[Y n,J p,J c] 36)) (aJ #[J 0,bN,J 0,J 0] 87);simpa [bX] using this);(have x:Z (∀bx,w.heap.size<=bx->¬eU u bx):=λbx hk hm=>by have:=h.inlt hm;omega);have HW:Z _:=hW.symm;have b3:=ae hF;have MK:Z (io q I w u W u):=(io.refl q I w u).YM hK;clear hW h ar ht;have A:Z (pX (dB l S) l y H ⟨n,p,c⟩ k d=match vN l y H ⟨n,p,c⟩ d with | .inl al=>((al,k,d),H) | .inr (j,z')=>(dB l S j k d,z')):=rfl;have v:Z (vN l y H ⟨n,p,c⟩ d=_):=(show vN l y H ⟨n,p,c⟩ d=_ from by unfold vN;rw[hn,bs]);cases ho:mS d
 ·have av:=jh s H hz;have bz:=vR s H hs;have bj:=jh s (aM s H).2 av.2.1;have a8:=tB (aM s H).1.text l;generalize hr1:aM s H=r1 at *;have⟨⟨V,u1,f1,z⟩,z1⟩:=r1;simp only at av bz bj a8 v;have bT:=vR s z1 hs;generalize hr2:aM s z1=r2 at *;have⟨⟨t2,u2,f2,L⟩,z2⟩:=r2;simp only at bj bT v;rw[ho]at v;have S0:wo w W q t y1 I H l zt k d u n s:=⟨D,TB,SC,hF,MK.o⟩;go_enter func204,ntmps204;go_upto_region 1 with fail;rw[HW.o];go_wp2_with fail;refine(xf q 200 5 (fG t k) [] d u _ D (kZ t k a7)).mono ?_;rintro e w1 ⟨rfl,T⟩;subst T;rw[ho];go_wp2_with fail;refine(xd I H n s _ hs hz SC).mono ?_;rintro e w2 ⟨rfl,ac,ba⟩;rw[hr1]at ac ⊢;simp[ia]at ac ⊢;have S2:=S0.next ba ac am bf be ao;have⟨W3,af⟩:∃W3,W3=w2.alloc (aJ #[Y V,J u1,bool f1,Y n,J (bA s z),J (bY s z)] 255):=⟨_,rfl⟩;(have aS:Z _:=af.symm;have S3:wo w W3 q t y1 I z1 l zt k d u n s:=by rw[af];exact S2.YM (bQ.alloc _));(have I3:lQ W3 w2.heap.size n s ⟨V,u1,f1,z⟩:=by rw[af];exact VD ..);clear af S0 S2 ac ba D TB SC hP hF hK HW hr1;go_upto_region 4 with fail;rw[aS.o];clear aS;have⟨f,g,i,m,a4,a5⟩:=I3.cells;go_wp2_with fail;refine(eF V n u1 (bA s z) (bY s z) f1 _).mono ?_;rintro e w4 ⟨rfl,ap⟩;have B:=S3.YM ap;have I4:=I3.YZ ap (by simp);clear f g i m a4 a5 S3 I3 ap;have⟨f,g,i,m,a4,a5⟩:=I4.cells;have b4:=ae I4;have b1:=ae B.F;cases T:(u1==0 && !f1)
  ·(have b:Z (pX (dB l S) l y H ⟨n,p,c⟩ k d=((lM n s ⟨V,u1,f1,z⟩,k,d),H)):=by show _=_;rw[A.o,v.o];simp[aZ,T]);clear A v;go_wp2_with fail;refine(qh V n u1 (bA s z) (bY s z) f1 _).mono ?_;rintro e w5 ⟨rfl,bq⟩;have⟨al,hq⟩:∃al:Int,Z ((if f1=true then(7:Int) else u1)=al):=⟨_,rfl⟩
   rw[hq.o];have N:=B.YM bq;have⟨C,E,G,K⟩:=dx N.F;have ax:=au N.F;have a:Z _:=(λf g i m=>ma N.D N.M (F:=w.heap.size+1) (by omega) (by omega) (x.o _ (by omega)) f g i m);clear f g i m a4 a5;go_wp2;exact VJ (v:=agg #[J al,Y n,J (bA s z),J (bY s z)]) (by simp[results,results204,go_sem,C,E,G,K]) rfl
    ⟨by rw[b.o,vg,hq.o],u,by rw[b.o];exact(a.o ..).1,(a.o ..).2,by
     rw[b.o];grind [lM]⟩
  ·have bv:u1=0:=(by grind);have bo:f1=false:=(by grind);subst bv bo;cases bm:eO V
   ·have b0:aP w4 q 0 (bh t):=B.D.preCell 0 (by simp[fG]);rcases a8 with bd | ⟨j,hj,ai⟩
    ·(have b:Z (pX (dB l S) l y H ⟨n,p,c⟩ k d=(((6,mN n s z),k,d),H)):=by show _=_;rw[A.o,v.o];grind [aZ])
     clear A v;(go_upto_region 8 with (go_at_call 230;refine(fL V _ (by omega)).mono ?_;rintro e w5 ⟨rfl,rfl⟩));go_quiet ((go_at_call 49;exact VU (nU t y1 l zt V _ (B.YM (bQ.drewN _)).TB)));have N:=B.YM (bQ.drewN nq);rw[bd];have⟨C,E,G,K⟩:=dx B.F;have ax:=au B.F;have a:Z _:=(λf g i m=>ma N.D N.M (F:=w.heap.size+1) (by omega) (by omega) (x.o _ (by omega)) f g i m);go_wp2;exact VJ (v:=agg #[J 6,Y n,J (bA s z),J (bY s z)]) (by simp[results,results204,go_sem,C,E,G,K]) rfl
      ⟨by rw[b.o];rfl,u,by rw[b.o];exact(a.o ..).1,(a.o ..).2,by rw[b.o];simp⟩
    ·(go_upto_region 8 with (go_at_call 230;refine(fL V _ (by omega)).mono ?_;rintro e w5 ⟨rfl,rfl⟩));go_quiet ((go_at_call 49;exact VU (nU t y1 l zt V _ (B.YM (bQ.drewN _)).TB)));rw[ai];have N:=B.YM (bQ.drewN nq);go_wp2_with fail;refine(xd I z1 n s _ hs av.2.1 N.SC).mono ?_;rintro e w6 ⟨rfl,ad,bc⟩;rw[hr2]at ad ⊢;simp[ia]at ad ⊢;have S6:=N.next bc ad am bf be ao;have⟨W7,ag⟩:∃W7,W7=w6.alloc (aJ #[Y t2,J u2,bool f2,Y n,J (bA s L),J (bY s L)] 255):=⟨_,rfl⟩;(have aT:Z _:=ag.symm;have S7:wo w W7 q t y1 I z2 l zt k d u n s:=(by rw[ag];exact S6.YM (bQ.alloc _));have I7:lQ W7 w6.heap.size n s ⟨t2,u2,f2,L⟩:=(by rw[ag];exact VD ..);clear ag B N S6 ad bc I4 f g i m a4 a5 b0;(go_upto_region 12 with fail);rw[aT.o];clear aT;have⟨f,g,i,m,a4,a5⟩:=I7.cells;go_wp2_with fail;refine(eF t2 n u2 (bA s L) (bY s L) f2 _).mono ?_;rintro e w8 ⟨rfl,aq⟩;have P:=S7.YM aq;have I8:=I7.YZ aq (by simp);clear f g i m a4 a5 S7 I7 aq;have⟨f,g,i,m,a4,a5⟩:=I8.cells;have a6:=ae P.F;have b7:¬((j:Int)<0):=by omega);cases b8:(u2==0 && !f2)
     ·(have b:Z (pX (dB l S) l y H ⟨n,p,c⟩ k d=((lM n s ⟨t2,u2,f2,L⟩,k,d),H)):=by show _=_;rw[A.o,v.o,ai];grind [aZ]);clear A v;go_wp2_with fail;refine(qh t2 n u2 (bA s L) (bY s L) f2 _).mono ?_;rintro e w9 ⟨rfl,br⟩;have⟨al,hq⟩:∃al:Int,Z ((if f2=true then(7:Int) else u2)=al):=⟨_,rfl⟩
      rw[hq.o];have S9:=P.YM br;have⟨C,E,G,K⟩:=dx S9.F;have ax:=au S9.F;have a:Z _:=(λf g i m=>ma S9.D S9.M (F:=w.heap.size+1) (by omega) (by omega) (x.o _ (by omega)) f g i m);clear f g i m a4 a5;go_wp2;exact VJ (v:=agg #[J al,Y n,J (bA s L),J (bY s L)]) (by simp[results,results204,go_sem,C,E,G,K]) rfl
       ⟨by rw[b.o,vg,hq.o],u,by rw[b.o];exact(a.o ..).1,(a.o ..).2,by
        rw[b.o];grind [lM]⟩
     ·have bw:u2=0:=(by grind);have bp:f2=false:=(by grind);subst bw bp;cases b6:(t2.toList == [36,93])
      ·(have b:Z (pX (dB l S) l y H ⟨n,p,c⟩ k d=(((5,mN n s L),k,d),H)):=by show _=_;rw[A.o,v.o,ai];grind [aZ])
       clear A v;have⟨C,E,G,K⟩:=dx P.F;have ax:=au P.F;have a:Z _:=(λf g i m=>ma P.D P.M (F:=w.heap.size+1) (by omega) (by omega) (x.o _ (by omega)) f g i m);go_wp2;exact VJ (v:=agg #[J 5,Y n,J (bA s L),J (bY s L)]) (by simp[results,results204,go_sem,C,E,G,K]) rfl
        ⟨by rw[b.o];rfl,u,by rw[b.o];exact(a.o ..).1,(a.o ..).2,by rw[b.o];simp⟩
      ·(have b:Z (pX (dB l S) l y H ⟨n,p,c⟩ k d=(dB l S j k d,z2)):=by show _=_;rw[A.o,v.o,ai];grind [aZ])
       clear A v;have RJ:=RF.o j w8 hj P.D P.TB;unfold lD at RJ;have az:Z _:=RJ;clear RJ RF;generalize dB l S j k d=R at *;obtain⟨⟨r,pf,pl,pc⟩,b2,d'⟩:=R;simp only[jx]at az;go_wp2_with fail;refine VL az.o ?_;rintro e w9 ⟨rfl,H9,D9,T9⟩;have F9:=T9.1.get P.F (by rintro (e | e);omega;exact x.o _ (by omega) e);have bl:dd w9 I n s z2:=T9.1.get P.SC (by grind);have⟨C,E,G,K⟩:=dx F9;have ax:=au F9;have a:Z _:=(λf g i m=>ma D9 (P.M.trans (T9.YR I)) (F:=w.heap.size+1) (by omega) (by omega) (T9.fresh _ a6 (x.o _ (by omega))) f g i m);have bk:Z _:=(λf g i m=>bl.YZ (kV (r:=w.heap.size+1) f g i m) (by grind));clear f g i m a4 a5;go_wp2;exact VJ (v:=agg #[J r,Y pf,J pl,J pc]) (by simp[results,results204,go_sem,C,E,G,K]) rfl
        ⟨by rw[b.o];rfl,H9,by rw[b.o];exact(a.o ..).1,(a.o ..).2,by rw[b.o];exact λ_=>bk.o ..⟩
   ·(have b:Z (pX (dB l S) l y H ⟨n,p,c⟩ k d=(((5,mN n s z),k,d),H)):=by show _=_;rw[A.o,v.o];simp[aZ,bm])
    clear A v;have⟨C,E,G,K⟩:=dx B.F;have ax:=au B.F;have a:Z _:=(λf g i m=>ma B.D B.M (F:=w.heap.size+1) (by omega) (by omega) (x.o _ (by omega)) f g i m);go_wp2_with (go_at_call 230;refine(fL V _ (by omega)).mono ?_;rintro e w5 ⟨rfl,rfl⟩);exact VJ (v:=agg #[J 5,Y n,J (bA s z),J (bY s z)]) (by simp[results,results204,go_sem,C,E,G,K]) rfl
     ⟨by rw[b.o];rfl,u,by rw[b.o];exact(a.o _ _ _ _).1,(a.o ..).2,by rw[b.o];simp⟩
 ·(have b:Z (pX (dB l S) l y H ⟨n,p,c⟩ k d=(((4,⟨n,p,c⟩),k,d),H)):=by show _=_;rw[A.o,v.o,ho];simp);clear A v;have⟨i0,i1,i2⟩:=Aj hP;have⟨C,E,G,K⟩:=dx hF;have ax:=au hF;have a:Z _:=(λf g i m=>ma D MK.o (F:=w.heap.size+1) (by omega) (by omega) (x.o _ (by omega)) f g i m);go_enter func204,ntmps204;go_upto_region 1 with fail
  rw[HW.o];go_wp2_with fail;refine(xf q 200 5 (fG t k) [] d u _ D (kZ t k a7)).mono ?_;rintro e w1 ⟨rfl,T⟩;subst T;rw[ho];go_wp2;exact VJ (v:=agg #[J 4,Y n,J p,J c]) (by simp[results,results204,go_sem,C,E,G,K]) rfl
   ⟨by rw[b.o];rfl,u,by rw[b.o];exact(a.o ..).1,(a.o ..).2,by rw[b.o];simp⟩
theorem Fy(z:k.length=4)(d:Db)(f:Nat->U)(n s b:Vx)(a c:Int)(w:World)(h:bu w q 200 (fG t k) [] d f)(hn:aO l y=n)(V:ak l y=s)(hs:s.size<=1024)(hz:H<=s.size)(i:dd w I n s H)(ht:ce w t y1 l zt)(B:I≠q)(ag:t≠I)(ac:¬eU f I)(ad:ip d 10000000)(af:b.size<=1073741824)(T:F7 d 100000000)(RF:Z (∀(j:Nat) (g:World),j<l.length->bu g q 200 (fG t k) [] d f->ce g t y1 l zt->lD q t l S j k d f g)) :
  aU 156 #[bh q,bh I,agg #[Y b,J 0,bool false,Y n,J a,J c]] w λe g =>
   e=cM (jx (lK (dB l S) l y H b ⟨n,a,c⟩ k d).1.1)/\∃C,bu g q 200 (fG t (lK (dB l S) l y H b ⟨n,a,c⟩ k d).1.2.1) [] (lK (dB l S) l y H b ⟨n,a,c⟩ k d).1.2.2 C/\io q I w f g C /\
    (((lK (dB l S) l y H b ⟨n,a,c⟩ k d).1.1.1==0)=true->dd g I n s (lK (dB l S) l y H b ⟨n,a,c⟩ k d).2):=by
 cases hi:(b.toList == [36,91]);{(have D:lK (dB l S) l y H b ⟨n,a,c⟩ k d=((if((bD d b ⟨n,a,c⟩).1==0)=true then ew else((bD d b ⟨n,a,c⟩).1,⟨n,a,c⟩),k,(bD d b ⟨n,a,c⟩).2),H):=by grind [lK]);rw[D];refine(ym q 200 t k z d f _ b n a c w h ad af T hi).mono ?_;rintro e g ⟨rfl,C,D',T'⟩;exact⟨rfl,C,D',T'.YR I,λ_=>T'.1.get i (by grind)⟩}
 ·(have D:lK (dB l S) l y H b ⟨n,a,c⟩ k d=pX (dB l S) l y H ⟨n,a,c⟩ k d:=by grind [lK]);rw[D];have⟨W,x⟩:∃W,W=((w.alloc (aJ #[Y b,J 0,bool false,Y n,J a,J c] 255)).alloc (aJ #[J 0,bN,J 0,J 0] 87)):=⟨_,rfl⟩;(have E:aI w W:=by rw[x];exact((O.refl [] w).alloc _).alloc _);(have ao:=h.lt;have al:=ae i;have hI:W.heap[w.heap.size]?=some (aJ #[Y b,J 0,bool false,Y n,J a,J c] 255):=by rw[x];exact(bQ.alloc _).gt (VD ..));(have hF:W.heap[w.heap.size+1]?=some (aJ bX 87):=by rw[x];have:=VD (w.alloc (aJ #[Y b,J 0,bool false,Y n,J a,J c] 255)) (aJ #[J 0,bN,J 0,J 0] 87);simpa [bX] using this);(have⟨i0,_,_,i3,i4,i5⟩:=Oa hI;have IC:=Hz q t y1 I S y H l zt k z d f n s a c W (h.YM E) hn V hs hz (i.YZ E (by simp)) (ht.YZ E (by simp)) B ag ac RF;have p:Z _:=IC;have u:Z (∀ai,w.heap.size<=ai->¬eU f ai):=λai hk hm=>by have:=h.inlt hm;omega);have HW:Z _:=x.symm;clear x IC RF D h;generalize pX (dB l S) l y H ⟨n,a,c⟩ k d=R at *;have⟨⟨⟨r,pf,pl,pc⟩,am,d'⟩,z'⟩:=R;simp only[jx]at p ⊢;go_enter func156,ntmps156;go_upto_region 1 with fail
  rw[HW.o];go_wp2_with fail;refine VL p ?_;rintro e w2 ⟨rfl,H2,D2,K,A⟩;have v:=K.1.get hF (by rintro (e | e | e);omega;omega;exact u _ (by omega) e);have⟨j0,j1,j2,j3⟩:=dx v;have ap:=au v;have m:Z _:=(λL M N P=>ma D2 (K.first E) (F:=w.heap.size+1) (by omega) (by omega) (K.fresh _ (ae hF) (u _ (by omega))) L M N P);have G:Z _:=(λL M N P hh=>(A hh).YZ (kV (r:=w.heap.size+1) L M N P) (by grind));clear A i0 i3 i4 i5;go_wp2;exact VJ (v:=agg #[J r,Y pf,J pl,J pc]) (by simp[results,results156,go_sem,j0,j1,j2,j3]) rfl
   ⟨rfl,H2,(m ..).1,(m ..).2,G _ _ _ _⟩
set_option maxRecDepth 512
theorem Iq :
  aU 152 #[agg #[Y y4,Y u]] i λe a=>∃s,e=cM (bh s)/\i.heap.size<=s/\dd a s y4 u 0/\aI i a:=by go_enter func152,ntmps152;go_wp2;go_ret;refine⟨i.heap.size+1,rfl,by omega,?_,((O.refl _ _).alloc _).alloc _⟩;have:=VD (i.alloc (aJ #[Y y4,Y u] 68)) (aJ #[Y y4,Y u,J 0,J 1,J 1] 300);simpa [dd,pg,bA,bY] using this
theorem aA.beyond(a:aA f T x L g)(k:O z7 L z5)(e:∀c,c∈z7->T.heap.size<=c):aA f T x z5 g :=
 ⟨⟨k.os.trans a.1.os,k.tape.trans a.1.tape,k.output.trans a.1.output,VK a.1.size k.size,λi b d=>by
  rw[<-a.1.block i b d];exact k.block i (VG b a.1.size) (by grind)⟩,a.2⟩
theorem aA.word(a:aA f T x L g)(M:io f o L g z5 x0)(i:T.heap.size<=o):aA f T x z5 x0:=by refine⟨⟨M.1.os.trans a.1.os,M.1.tape.trans a.1.tape,M.1.output.trans a.1.output,VK a.1.size M.1.size,?_⟩,?_⟩;{intro k b d;rw[<-a.1.block k b d];refine M.1.block k (VG b a.1.size) ?_;rintro (e | e | c);{omega};{omega};{rcases a.2 k c with h | h;{grind};{omega}}};{intro k b;rcases M.2 k b with h | h;{exact a.2 k h};{exact VW (VK a.1.size h)}}
theorem Pt:(fG H k).set (1+s) (bool true)=fG H (k.set s true):=by unfold fG;rw[Nat.add_comm 1 s,List.set_cons_succ,XB]
theorem IL(h:k.length=4)(a:s<4):(fG H k)[1+s]?=some (bool (k.getD s true)):=by grind [fG]
set_option maxRecDepth 100000
theorem Br(b:k.length=4)(d:Db)(a:Nat->U)(w:World)(g:H<4)(h:bu w I 200 (fG S k) [] d a)(c:k.getD H true=true):lD I S l y H k d a w:=by
 unfold lD dB;rw[VO c];have f:=h.lt;have e:=h.preCell (1+H) (by grind [kZ]);rw[IL S k H b g,c]at e;go_enter func110,ntmps110;go_wp2;exact VJ (v:=agg #[J 0,bN,J 0,J 0]) (by simp[results,results110,go_sem]) rfl
  ⟨rfl,a,h.YM (bQ.alloc _),(aA.refl _ _ _).YM (bQ.alloc _)⟩
theorem CL(cf:∀j,j<l.length->(ak l j).size<=1024)(ck:S≠I)(IH:∀g,g<H->∀(j:Nat) (K:List Bool) (d:Db) (C:Nat->U) (w:World) (m:Nat),j<l.length->K.length=4->rx d m->m+gI l K<=9000000->gI l K<=g->bu w I 200 (fG S K) [] d C->ce w S y l zf->¬eU C S->lD I S l g j K d C w)(j:Nat)(K:List Bool)(d:Db)(C:Nat->U)(w:World)(m:Nat)(hj:j<l.length)(bk:K.length=4)(hB:rx d m)(hm:m+gI l K<=9000000)(hf:gI l K<=H)(h:bu w I 200 (fG S K) [] d C)(ht:ce w S y l zf)(cl:¬eU C S)(hb:K.getD j true=false):lD I S l H j K d C w:=by
 unfold lD dB;rw[VS (by grind)];have cq:=ht.2;have hs:=cf j hj;have bm:=Bc l K j bk hb;have⟨n,hn⟩:∃n,aO l j=n:=⟨_,rfl⟩;have⟨s,al⟩:∃s,ak l j=s:=⟨_,rfl⟩;rw[al]at hs bm;have cy:=h.lt;have b5:=h.free;have cH:=ht.lt;have c1:=h.preCell (1+j) (by grind [kZ]);rw[IL S K j bk (by omega),hb]at c1;have c0:=h.preCell 0 (by simp[fG]);have b0:aP w I 0 (bh S):=c0;clear c0;have P1:=h.pre (1+j) (by grind [kZ]) (bool true);rw[Pt]at P1;have⟨L,a4⟩:∃L,K.set j true=L:=⟨_,rfl⟩;(have b7:L.length=4:=by grind);rw[a4]at P1 bm ⊢;clear a4;have⟨W,hW⟩:∃W,W=(w.setCell (X I (1+j)) (bool true)).alloc (aJ #[J 0,bN,J 0,J 0] 87):=⟨_,rfl⟩;(have D1:bu W I 200 (fG S L) [] d C:=by rw[hW];exact P1.1.YM (bQ.alloc _));(have T1:aA I w C W C:=by rw[hW];exact P1.2.YM (bQ.alloc _));(have F1:W.heap[w.heap.size]?=some (aJ bX 87):=by rw[hW];have:=VD (w.setCell (X I (1+j)) (bool true)) (aJ bX 87);simpa [World.setCell,bX] using this);(have bc:ce W S y l zf:=⟨T1.1.get ht.1 (by grind),ht.2⟩;have ax:Z (∀k,w.heap.size<=k->¬eU C k):=λk hk hm=>by have:=h.inlt hm;omega);(have⟨HW,bw⟩:=jy hW.symm IH;clear P1 hW IH;go_enter func110,ntmps110;go_wp2_with fail;rw[HW.o];clear HW c1 b0 b5 ht h;refine(R6 S y j l zf _ bc hj).mono ?_;rintro e w2 ⟨rfl,ai⟩;rw[hn,al];go_wp2_with fail;refine(Iq n s _).mono ?_;rintro e w3 ⟨sp,rfl,cE,h3,ao⟩;go_wp2_with fail;refine(xd sp 0 n s _ hs (by omega) h3).mono ?_;rintro e w4 ⟨rfl,h4,ap⟩;have cx:=ae F1;have cL:=ai.size;have ct:w.heap.size<sp:=by omega);(have bs:sp≠I:=by omega);(have bv:S≠sp:=by omega);have T4:aA I w C w4 C:=(((T1.YM ai).YM ao).beyond ap (by grind));have F4:=ap.get (ao.get (ai.gt F1) (by simp)) (by grind);have D4:bu w4 I 200 (fG S L) [] d C:=((D1.YM ai).YM ao).YZ ap (by grind) (by intro k hk;simp;rintro rfl;exact ax _ (by omega) hk);have be:ce w4 S y l zf:=((bc.YZ ai (by simp)).YZ ao (by simp)).YZ ap (by grind);have cs:=ae h4;clear D1 T1 F1 bc ai ao ap h3;simp[ia];go_wp2;go_loopg [7] s.size (λgk _ wr=>∃(k g m1:Nat) (b:List Bool) (v:Db) (E:Nat->U),k<=s.size/\gk=s.size-k/\b.length=4/\rx v m1/\m1+(s.size-k)+gI l b<=9000000/\(s.size-k)+gI l b+1<=g/\g<=H /\ Z (cQ l H j 0 L d=cQ l g j k b v)/\dd wr sp n s (aM s k).2/\lQ wr w4.heap.size n s (aM s k).1 /\ wr.heap[w.heap.size]?=some (aJ bX 87)/\bu wr I 200 (fG S b) [] v E/\ce wr S y l zf/\aA I w C wr E/\(¬eU E sp/\¬eU E w4.heap.size/\¬eU E w.heap.size/\¬eU E S));{exact⟨0,H,m,L,d,C,by omega,by omega,b7,hB,by omega,by omega,VC _,rfl,h4.YZ (bQ.alloc _) (by simp),VD ..,(bQ.alloc _).gt F4,D4.YM (bQ.alloc _),be.YZ (bQ.alloc _) (by simp),T4.YM (bQ.alloc _),ax _ (by omega),ax _ (by omega),ax _ (by omega),cl⟩};have⟨k,g,m1,b,v,E,hk,hg,ar,aS,cB,cz,cA,hR,h5,hI,hF,D,TB,T,bo,bp,M,ba⟩:=hrel;obtain⟨P,rfl⟩:∃P,g=P+1:=⟨g-1,by omega⟩;(clear D4 T4 F4 be h4;have bq:=jh s k hk;have cj:=vR s k hs;have SK:=Jh l P (Sf l P).2 j k b v m1 (al ▸ hk) ar aS;have L1:=Dm l P j k b v;have L2:=rH l P j k b v;have L3:=EW l P j k b v;have L4:=AI l P j k b v;have ST:iG l P j k b v=lK (dB l P) l j (aM s k).2 (aM s k).1.text (mN n s (aM s k).1.pos) b v:=by unfold iG;rw[hn,al]);rw[al]at SK L1 L2 L3 L4;rw[hn]at L4;rw[ST]at SK L1 L2;have L6:aZ (aM s k).1=false->(aM s k).1.Y5=false->((aM s k).1.Y9==0)=false:=me;have⟨af,V,ac,ad,G,am⟩:=wl SK L1 L2 L3 L4 L6;clear SK L1 L2 L3 L4 L6 ST;generalize hrr:aM s k=r at *;have⟨⟨t,u,fi,p⟩,z⟩:=r;clear hrr;simp only at h5 hI bq cj af V ac ad G am;obtain⟨q0,q1,q2,q3,q4,q5⟩:=hI.cells;have cF:=ae h5;cases hw:(u==0 && !fi)
 ·cases fi
  ·have R:Z _:=hR.o.trans (G hw (by simp));have hu:(u==0)=false:=(by simpa using hw);clear V ac ad G am af;go_wp2_with fail;refine(eF t n _ (bA s p) (bY s p) _ _).mono ?_;rintro e w5 ⟨rfl,a⟩;have i:=hI.YZ a (by simp);have c:=a.gt hF;have D5:=D.YM a;have T5:=T.YM a;clear q0 q1 q2 q3 q4 q5 hI h5 hF D T a TB;obtain⟨q0,q1,q2,q3,q4,q5⟩:=i.cells;go_wp2_with fail;refine(qh t n u (bA s p) (bY s p) _ _).mono ?_;rintro e w6 ⟨rfl,a7⟩;simp only[Bool.false_eq_true,if_false];have q:=a7.gt c;have D6:=D5.YM a7;have T6:=T5.YM a7;have f:Z _:=(λa0 a1 a2 a3=>qO D6 T6 (F:=w.heap.size) (VC _) (by omega) M a0 a1 a2 a3);have⟨z0,z1,z2,z3⟩:=dx q;have cu:=au q;go_wp2;exact VJ (v:=agg #[J u,Y n,J (bA s p),J (bY s p)]) (by simp[results,results110,go_sem,z0,z1,z2,z3]) rfl
    ⟨by rw[R.o];rfl,E,by rw[R.o];exact(f _ _ _ _).1,(f ..).2⟩
  ·cases ho:mS v
   ·have R:Z _:=hR.o.trans (ad hw rfl ho);clear V ac ad G am af;go_wp2_with fail;refine(eF t n _ (bA s p) (bY s p) _ _).mono ?_;rintro e w5 ⟨rfl,a⟩;have i:=hI.YZ a (by simp);have c:=a.gt hF;have D5:=D.YM a;have T5:=T.YM a;clear q0 q1 q2 q3 q4 q5 hI h5 hF D T a TB;obtain⟨q0,q1,q2,q3,q4,q5⟩:=i.cells;go_wp2_with fail;refine(xf I 200 5 (fG S b) [] v E _ D5 (kZ S b ar)).mono ?_;rintro e w6 ⟨rfl,bd⟩;subst bd;rw[ho];have f:Z _:=(λa0 a1 a2 a3=>qO D5 T5 (F:=w.heap.size) (VC _) (by omega) M a0 a1 a2 a3);obtain⟨z0,z1,z2,z3⟩:=dx c;have cu:=au c;go_wp2;exact VJ (v:=agg #[J 0,bN,J 0,J 0]) (by simp[results,results110,go_sem,z0,z1,z2,z3]) rfl
     ⟨by rw[R.o];rfl,E,by rw[R.o];exact(f _ _ _ _).1,(f _ _ _ _).2⟩
   ·have R:Z _:=hR.o.trans (G hw (by simp[ho]));clear V ac ad G am af;go_wp2_with fail;refine(eF t n _ (bA s p) (bY s p) _ _).mono ?_;rintro e w5 ⟨rfl,a⟩;have i:=hI.YZ a (by simp);have c:=a.gt hF;have D5:=D.YM a;have T5:=T.YM a;clear q0 q1 q2 q3 q4 q5 hI h5 hF D T a TB;obtain⟨q0,q1,q2,q3,q4,q5⟩:=i.cells;go_wp2_with fail;refine(xf I 200 5 (fG S b) [] v E _ D5 (kZ S b ar)).mono ?_;rintro e w6 ⟨rfl,bd⟩;subst bd;rw[ho];go_wp2_with fail;refine(qh t n u (bA s p) (bY s p) _ _).mono ?_;rintro e w7 ⟨rfl,a8⟩;simp only[if_true];have bj:=a8.gt c;have D7:=D5.YM a8;have T7:=T5.YM a8;have f:Z _:=(λa0 a1 a2 a3=>qO D7 T7 (F:=w.heap.size) (VC _) (by omega) M a0 a1 a2 a3);have⟨z0,z1,z2,z3⟩:=dx bj;have cu:=au bj;go_wp2;exact VJ (v:=agg #[J 7,Y n,J (bA s p),J (bY s p)]) (by simp[results,results110,go_sem,z0,z1,z2,z3]) rfl
     ⟨by rw[R.o];rfl,E,by rw[R.o];exact(f ..).1,(f ..).2⟩
 ·(have hu:u=0:=by simp at hw;omega);(have b4:fi=false:=by simp at hw;exact hw.2)
  subst hu b4;have br:=(aS.small (N:=100000000) (by omega)).2;have RW:=λ(w':World) (h':bu w' I 200 (fG S b) [] v E) (cd:dd w' sp n s z) (cg:ce w' S y l zf)=>Fy I S y sp P j z l zf b ar v E n s t (bA s p) (bY s p) w' h' hn al hs bq.2.1 cd cg bs bv bo (aS.small (N:=10000000) (by omega)).1 (by omega) br
   (λjj ww b6 b3 ch=>bw P (by omega) jj b v E ww m1 b6 ar aS (by omega) (by omega) b3 ch ba)
  have a5:Z _:=RW;have B:Z _:=af hw;have x:Z _:=V hw;have A:Z _:=ac hw;clear RW V ac ad G am af;simp only[mN]at B x A;generalize lK (dB l P) l j z t ⟨n,bA s p,bY s p⟩ b v=co at *;obtain⟨⟨⟨r,pf,pl,pc⟩,bT,d2⟩,z2⟩:=co;simp only[jx]at B x A a5;have av:=B.2;obtain⟨bl,ca,m2,bf,b8⟩:=B.1;simp only at bl ca bf b8 av;clear B;cases hr:(r==0)
  ·have cb:(r != 0)=true:=(by simp[bne,hr]);have R:Z _:=hR.o.trans (A hr);clear x A;go_wp2_with fail;refine(eF t n _ (bA s p) (bY s p) _ _).mono ?_;rintro e w5 ⟨rfl,a⟩;have i:=hI.YZ a (by simp);have az:=h5.YZ a (by simp);have c:=a.gt hF;have D5:=D.YM a;have T5:=T.YM a;have ag:=TB.YZ a (by simp);clear q0 q1 q2 q3 q4 q5 hI h5 hF D T TB a;obtain⟨q0,q1,q2,q3,q4,q5⟩:=i.cells;go_wp2_with fail;refine(a5 _ D5 az ag).mono ?_;rintro e w6 ⟨rfl,H2,D6,M6,-⟩;have q:=M6.1.get c (by rintro (e | e | e);omega;omega;exact M e);have m3:=M6.fresh w.heap.size (ae c) M;have T7:=T5.word M6 (by omega);have aT:=ae q;have y6:=au q;obtain⟨z0,z1,z2,z3⟩:=dx q;have f:Z _:=(λa0 a1 a2 a3=>qO D6 T7 (F:=w.heap.size) (VC _) (by omega) m3 a0 a1 a2 a3);clear q0 q1 q2 q3 q4 q5;go_wp2;exact VJ (v:=agg #[J r,Y pf,J pl,J pc]) (by simp[results,results110,go_sem,aT,z0,z1,z2,z3]) rfl
    ⟨by rw[R.o];rfl,H2,by rw[R.o];exact(f _ _ _ _).1.YM (bQ.alloc _),((f _ _ _ _).2.YM (bQ.alloc _))⟩
  {have cb:(r != 0)=false:=(by simp[bne,hr]);have R:Z _:=hR.o.trans (x hr);clear x A;go_wp2_with fail;refine(eF t n _ (bA s p) (bY s p) _ _).mono ?_;rintro e w5 ⟨rfl,a⟩;have i:=hI.YZ a (by simp);have az:=h5.YZ a (by simp);have c:=a.gt hF;have D5:=D.YM a;have T5:=T.YM a;have ag:=TB.YZ a (by simp);clear q0 q1 q2 q3 q4 q5 hI h5 hF D T TB a;obtain⟨q0,q1,q2,q3,q4,q5⟩:=i.cells;go_wp2_with fail;refine(a5 _ D5 az ag).mono ?_;rintro e w6 ⟨rfl,H2,D6,M6,cc⟩;have h6:=cc hr;have q:=M6.1.get c (by rintro (e | e | e);omega;omega;exact M e);have b2:lQ w6 w4.heap.size n s ⟨t,0,false,p⟩:=M6.1.get i (by rintro (e | e | e);omega;omega;exact bp e);have bx:ce w6 S y l zf:=⟨M6.1.get ag.1 (by rintro (e | e | e);exact ck e;exact bv e;exact ba e),ag.2⟩;have e1:=M6.fresh sp (ae az) bo;have e2:=M6.fresh w4.heap.size (ae i) bp;have e3:=M6.fresh w.heap.size (ae c) M;have e4:=M6.fresh S ag.lt ba;have aT:=ae q;have cv:=ae h6;go_wp2_with fail;refine(xd sp z2 n s _ hs av.2 (by exact h6.YZ (bQ.alloc _) (by simp))).mono ?_;rintro e w8 ⟨rfl,h8,aq⟩;have a6:=(b2.YZ (bQ.alloc _) (by simp)).YZ aq (by simp;omega);have b1:=aq.get ((bQ.alloc _).gt q) (by simp;omega);have D8:=(D6.YM (bQ.alloc _)).YZ aq (by simp;omega) (by intro k hk;simp;rintro rfl;exact e1 hk);have bz:=(bx.YZ (bQ.alloc _) (by simp)).YZ aq (by simp;omega);have T8:=((T5.word M6 (by omega)).YM (bQ.alloc _)).beyond aq (by simp;omega);have yy:=au a6;clear q0 q1 q2 q3 q4 q5;have⟨q0,q1,q2,q3,q4,q5⟩:=a6.cells;simp[ia];go_wp2;go_roundg (s.size-z2);{exact⟨z2,P,m2,bT,d2,H2,av.2,rfl,bl,bf,by omega,by omega,by omega,R,jt h8 (by omega) ..,tH a6 _,yq b1 (by omega) .., D8.YZ (Lv ..) (by grind) (by grind),bz.YZ (Lv ..) (by grind),T8.beyond (Lv ..) (by grind),e1,e2,e3,e4⟩};omega}
theorem Fx(e:∀j,j<l.length->(ak l j).size<=1024)(g:y≠S)(f:Nat):∀(j:Nat) (a:List Bool) (d:Db) (b:Nat->U) (w:World) (m:Nat),j<l.length->a.length=4->rx d m->m+gI l a<=9000000->gI l a<=f->bu w S 200 (fG y a) [] d b->ce w y H l zf->¬eU b y->lD S y l f j a d b w:=by induction f using Nat.strongRecOn with|_ f IH=>{intro j a d b w m q c o r p h n i;cases k:a.getD j true with|true=>exact Br S y f j l a c d b w (by have:=n.2;omega) h k|false=>exact CL S y H f l zf e g IH j a d b w m q c o r p h n i k}
structure jB(w:World)(l:List St)(H:Nat->U):Prop where
  Za:aK w (H 6) (ld l H)
  syms:∀i s,l[i]?=some s->aK w (H (10+2*i)) (aG s.YH)
  prfs:∀i s,l[i]?=some s->aK w (H (11+2*i)) (lh s.YS)
theorem bu.record(h:bu T f o z6 y3 M x):jB T M.YY x:=by refine⟨h.Za 6,λi s a=>?_,λi s a=>?_⟩;{have:=h.Za (10+2*i);(rw[show 10+2*i=2*i+10 by omega]at this ⊢;have e:bH M x (2*i+10)=aG s.YH:=by simp[bH,inner,symsAt,a]);rw[e]at this;exact this};{have:=h.Za (11+2*i);(rw[show 11+2*i=(2*i+1)+10 by omega]at this ⊢;have q:(2*i+1) % 2=1:=by omega);have b:(2*i+1) / 2=i:=(by omega);have e:bH M x ((2*i+1)+10)=lh s.YS:=(by grind [bH,inner,yV]);rw[e]at this;exact this}
theorem jB.keptP{P:Nat->Prop}(h:jB T c x)(k:fw P T L)(e:∀a,eU x a->¬P a):jB L c x :=
  ⟨h.Za.YR (λa b=>k.block a (h.Za.lt b) (e a ⟨6,b⟩)),λi s d=>(h.syms i s d).YR (λa b=>k.block a ((h.syms i s d).lt b) (e a ⟨_,b⟩)),λi s d=>(h.prfs i s d).YR (λa b=>k.block a ((h.prfs i s d).lt b) (e a ⟨_,b⟩))⟩
theorem jB.YZ(h:jB T c x)(k:O z7 T L)(b:∀a,eU x a->a∉z7):jB L c x :=
  h.keptP (k.toP (P:=(·∈z7)) (λ_ d _=>d)) b
theorem jB.YM(h:jB T c x)(k:aI T L):jB L c x:=h.YZ k (by simp)
def pF:Nat->U:=λ_=>⟨none,0⟩
theorem yh:¬eU pF s:=by rintro ⟨i,h⟩;simp[pF,U.Y0]at h
def MB:List Bool:=[false,false,false,false]
theorem bu.begin(h:T.heap[f]?=some (aJ (z6++(dF il pF++[])).toArray o)):bu T f o z6 [] il pF:=by
  refine⟨h,?_,λi j _=>VY rfl,by grind [pF,U.Y0]⟩;intro i
  match i with
  | 0=>exact VH ..
  | 1=>exact VH ..
  | 2=>exact VH ..
  | 3=>exact VH ..
  | 4=>exact VH ..
  | 5=>exact VH ..
  | 6=>exact VH ..
  | 7=>exact VH ..
  | 8=>exact VH ..
  | 9=>exact VH ..
  | n+10 =>
    have e:bH il pF (n+10)=if n % 2=0 then aG [] else lh []:=(by rfl);rw[e];split;{exact VH ..};{exact VH ..}
set_option maxRecDepth 512
theorem Ll(h:bu i S y zt zf z4 z)(b:zt.length=H) :
    aU 111 #[pointer (some (X S H))] i (kt (agg #[Q (z 6).ao z4.YY.length (z 6).cap,Q (z 7).ao z4.rbl.length (z 7).cap]) i):=by have⟨f,g,j,k,l,m,n,o,p,q,c,d,e⟩:=h.cells H b;have a:=h.lt;go_enter func111,ntmps111;go_wp2;exact VJ (v:=agg #[Q (z 6).ao z4.YY.length (z 6).cap,Q (z 7).ao z4.rbl.length (z 7).cap]) (by simp[results,results111,go_sem]) rfl ⟨rfl,(O.refl ..).alloc _⟩
theorem Fe(b:∀j,j<l.length->(ak l j).size<=1024)(a:List Bool):gI l a<=4104:=by (have h:∀j,U6 l a j<=1026:=by intro j;unfold U6;split;{omega};{rcases Yv j l.length with h | h;{grind};{(have:(ak l j).size=0:=by unfold ak;rw[VM,WE h];rfl);omega}});grind [gI]
theorem E5(h:O z7 T L)(b:f∈z7∨T.heap.size<=f)(a:o∈z7∨T.heap.size<=o)(c d e g i j:Value) :
    O z7 T ((((((L.setCell (aE f) c).setCell (X f 1) d).setCell (aE o) e).setCell (X o 1) g).setCell (X o 2) i).setCell (X o 3) j) :=
  (((((h.setCell b _).setCell b _).setCell a _).setCell a _).setCell a _).setCell a _
def cO(fs:Fs)(root:Nat):Mo:=dB fs 5000 root MB il
set_option maxRecDepth 100000
theorem TN(ht:ce i S y l zf)(M:H<l.length)(P:∀j,j<l.length->(ak l j).size<=1024) :
    aU 78 #[bh S,J H] i λe w' =>
      (if((cO l H).1.1==0)=true then ∃m,e=cM (tuple #[agg #[Q (m 6).ao (cO l H).2.2.YY.length (m 6).cap,Q (m 7).ao (cO l H).2.2.rbl.length (m 7).cap],jx ew])/\jB w' (cO l H).2.2.YY m/\(∀k,eU m k->i.heap.size<=k)
       else e=cM (tuple #[agg #[Q none 0 0,Q none 0 0],jx (cO l H).1]))/\aI i w':=by
  have ac:=ht.lt;obtain⟨W,n⟩:∃W,W=((i.alloc (aJ #[Q none 0 0,Q none 0 0] 76)).alloc (aJ #[J 0,bN,J 0,J 0] 87)).alloc (.cells #[bh S,bool false,bool false,bool false,bool false, Q none 0 0,Q none 0 0,Q none 0 0,Q none 0 0,Q none 0 0,Q none 0 0,Q none 0 0,Q none 0 0,J 0,bN,Q none 0 0,bool false,Q none 0 0] 200):=⟨_,rfl⟩;(have x:aI i W:=by rw[n];exact((bQ.alloc _).alloc _).alloc _);(have hA:W.heap[i.heap.size]?=some (aJ #[Q none 0 0,Q none 0 0] 76):=by rw[n];exact((bQ.alloc _).alloc _).gt (VD ..));(have hF:W.heap[i.heap.size+1]?=some (aJ bX 87):=by (rw[n];have e:(i.alloc (aJ #[Q none 0 0,Q none 0 0] 76)).heap.size=i.heap.size+1:=by simp);rw[<-e];exact(bQ.alloc _).gt (VD ..));(have hD:bu W (i.heap.size+2) 200 (fG S MB) [] il pF:=by (refine bu.begin ?_;rw[n];have e:((i.alloc (aJ #[Q none 0 0,Q none 0 0] 76)).alloc (aJ #[J 0,bN,J 0,J 0] 87)).heap.size=i.heap.size+2:=by simp);rw[<-e];exact VD ..);have HW:Z _:=n.symm;have K:=Fx (i.heap.size+2) S y l zf P (by omega) 5000 H MB il pF W 0 M rfl rx.empty (by grind [Fe,MB]) (by grind [Fe,MB]) hD (ht.YZ x (by simp)) (yh _);unfold lD at K;have q:Z _:=K;clear n K;have p:Z ((dB l 5000 H MB il).2.1.length=4):=((Sf l 5000).2 H MB il 0 rfl rx.empty).1;have V:Z (cO l H=dB l 5000 H MB il):=rfl;rw[V.o];clear V;generalize dB l 5000 H MB il=R at *;have⟨⟨r,pf,pl,pc⟩,s,L⟩:=R;simp only[jx]at q p ⊢;go_enter func78,ntmps78;go_upto_region 2 with fail;(rw[HW.o];go_wp2_with fail;refine VL q ?_;rintro e w2 ⟨rfl,d,T,f⟩;have a:=f.1.get hA (by grind [yh]);have b:=f.1.get hF (by grind [yh]);have I:Z (∀k,eU d k->i.heap.size<=k):=λk g=>by rcases f.2 k g with h | h;{grind [yh]};grind);(have G:Z (∀k,eU d k->k≠i.heap.size/\k≠i.heap.size+1/\k≠i.heap.size+2):=λk g=>by have ad:=hD.lt;rcases f.2 k g with h | h;{grind [yh]};{omega});have K2:Z (aI i w2):=⟨f.1.os.trans x.os,f.1.tape.trans x.tape,f.1.output.trans x.output,by grind,λk g _=>(f.1.block k (by grind) (by grind [yh])).trans (x.block k g (by simp))⟩;have⟨A,B⟩:=vG a;have⟨C,D,E,F⟩:=dx b;have ya:=au a;have yf:=au b;have t:=ae a;have v:=ae b;cases hr:(r==0);{(have N:(r != 0)=true:=by grind);go_wp2_with fail;go_region;(all_goals go_wp2);all_goals exact VJ (v:=tuple #[agg #[Q none 0 0,Q none 0 0],agg #[J r,Y pf,J pl,J pc]]) (by simp[results,results78,go_sem,A,B,C,D,E,F,t,v]) rfl ⟨rfl,((E5 K2 (by simp) (by simp) ..).alloc _).drew⟩}
  · (have N:(r != 0)=false:=by grind)
    go_wp2_with fail;refine(Ll (i.heap.size+2) 200 5 (fG S s) [] L d _ (by exact T.YM (bQ.alloc _)) (kZ S s p)).mono ?_;rintro e w4 ⟨rfl,z⟩;have c:aI w2 w4:=(bQ.alloc _).trans z;have u:=c.gt a;have w:=c.gt b;have K4:Z _:=K2.o.trans c;have S4:Z _:=T.record.YM c;clear A B C D E F ya yf z;have⟨A,B⟩:=vG u;have⟨C,D,E,F⟩:=dx w;have ya:=au u;have yf:=au w;go_wp2;exact VJ (v:=tuple #[agg #[Q (d 6).ao L.YY.length (d 6).cap,Q (d 7).ao L.rbl.length (d 7).cap],agg #[J 0,bN,J 0,J 0]]) (by simp[results,results78,go_sem,A,B,C,D,E,F]) rfl
      ⟨⟨d,rfl,S4.o.YZ (E5 (O.refl [i.heap.size,i.heap.size+1] w4) (VY (by simp)) (VY (by simp)) ..) (λk g=>by have:=G k g;grind),I⟩,
        E5 K4 (by simp) (by simp) ..⟩
structure eW(w:World)(b o:Nat)(l:List St)(H:Nat->U):Prop where
 cell:∃arr t,w.heap[b]?=some (aJ arr t)/\arr[o]?=some (Q (H 6).ao l.length (H 6).cap)
 YY:jB w l H
theorem eW.at(h:eW T f o c x):T.cell? (X f o)=some (Q (x 6).ao c.length (x 6).cap):=by obtain⟨a,t,b,d⟩:=h.cell;grind [aC]
theorem eW.lt(h:eW T f o c x):f<T.heap.size:=by obtain⟨a,t,b,d⟩:=h.cell;grind
theorem eW.YZ(h:eW T f o c x)(k:O z7 T L)(i:f∉z7)(g:∀b,eU x b->b∉z7):eW L f o c x:=by obtain⟨a,t,d,e⟩:=h.cell;exact⟨⟨a,t,k.get d i,e⟩,h.YY.YZ k g⟩
theorem eW.YM(h:eW T f o c x)(k:aI T L):eW L f o c x:=h.YZ k (by simp) (by simp)
theorem jB.stmt(h:jB T c x)(n:Nat)(l:n<c.length) :
  ∃g,(x 6).ao=some (aE g)/\c.length<=(x 6).cap/\(x 6).cap<=9223372036854775807/\aP T g (n*8) (J c[n].Y1)/\aP T g (n*8+1) (Y c[n].Y2)/\aP T g (n*8+2) (Q (x (10+2*n)).ao c[n].YH.length (x (10+2*n)).cap) /\
  aP T g (n*8+3) (Q (x (11+2*n)).ao c[n].YS.length (x (11+2*n)).cap)/\aP T g (n*8+4) (Y c[n].Y5.Y6)/\aP T g (n*8+5) (J c[n].Y5.Y7) /\
  aP T g (n*8+6) (J c[n].Y5.Y8)/\aP T g (n*8+7) (J c[n].til):=by rcases h.Za.YX with ⟨_,i,_⟩ | ⟨g,e,b,o,f,d,-⟩;{have:c.length=0:=i;omega};{have a:=λj (k:j<8) v (m:(Qj c[n] (x (10+2*n)) (x (11+2*n)))[j]?=some v)=>h.Za.cell b (n*8+j) v ((NF c x n l j k).trans m);exact⟨g,b,f,by unfold maxLen at d;exact d,a 0 (by omega) _ rfl,a 1 (by omega) _ rfl,a 2 (by omega) _ rfl,a 3 (by omega) _ rfl,a 4 (by omega) _ rfl,a 5 (by omega) _ rfl,a 6 (by omega) _ rfl,a 7 (by omega) _ rfl⟩}
set_option maxRecDepth 512
theorem fK(h:eW i y H D z) :
  aU 79 #[pointer (some (X y H))] i (iw (J D.length) i):=by have c:=h.at;go_enter func79,ntmps79;go_wp2;go_ret;exact⟨rfl,rfl⟩
def dV(s:St)(a b:U):Value :=
 agg #[J s.Y1,Y s.Y2,Q a.ao s.YH.length a.cap,Q b.ao s.YS.length b.cap,Y s.Y5.Y6,J s.Y5.Y7,J s.Y5.Y8,J s.til]
theorem bF(h:eW i S y D z)(e:H<D.length) :
  aU 96 #[pointer (some (X S y)),J H] i (kt (dV D[H] (z (10+2*H)) (z (11+2*H))) i):=by
 have c:=h.at;have b:=h.lt;obtain⟨g,a,q,r,f,j,k,l,m,n,o,p⟩:=h.YY.stmt H e;have d:=h.YY.Za.lt (k:=g) (by grind [U.Y0]);rw[a]at c;unfold dV;go_enter func96,ntmps96;go_wp2;exact VJ (v:=agg #[J D[H].Y1,Y D[H].Y2,Q (z (10+2*H)).ao D[H].YH.length (z (10+2*H)).cap,Q (z (11+2*H)).ao D[H].YS.length (z (11+2*H)).cap,Y D[H].Y5.Y6,J D[H].Y5.Y7,J D[H].Y5.Y8,J D[H].til])
  (by simp[results,results96,go_sem]) rfl ⟨rfl,(O.refl _ _).alloc _⟩
def je(l:List St)(n a:Nat):Bool:=match l[n]? with | some s=>decide (n<a)&&(s.til==0||decide (a<s.til)) | none=>false
theorem zax(h:ys<D.length):je D ys s=(decide (ys<s)&&(D[ys].til==0||decide (s<D[ys].til))):=by grind [je]
theorem jf(h:eW i I S D z)(f:y<D.length) :
  aU 186 #[pointer (some (X I S)),J y,J H] i (iw (bool (je D y H)) i):=by have c:=h.at;obtain⟨g,j,s,u,k,l,m,n,o,p,q,r⟩:=h.YY.stmt y f;rw[j]at c;have d:Z _:=zax D y H f;generalize D[y].til=t at *;by_cases e:y<H;{cases v:((t:Int)==0);{have a:(t==0)=false:=(by grind);have b:Z (je D y H=decide (H<t)):=cI (by rw[d.o,a];simp[e]);go_enter func186,ntmps186;go_wp2;go_ret;exact⟨aN (by rw[b.o]),rfl⟩};{have a:(t==0)=true:=(by grind);have b:Z (je D y H=true):=cI (by rw[d.o,a];simp[e]);go_enter func186,ntmps186;go_wp2;go_ret;exact⟨aN (by rw[b.o]),rfl⟩}};{(have b:Z (je D y H=false):=by show _=_;rw[d.o];simp[e]);go_enter func186,ntmps186;go_wp2;go_ret;exact⟨aN (by rw[b.o]),rfl⟩}
def rM(l:List St)(lab:Vx)(a n:Nat):Bool:=match l[n]? with | some s=>(s.Y2.toList==lab.toList) && !(s.Y1==1)&&je l n a | none=>false
def pt(l:List St)(lab:Vx)(a:Nat):Option Nat:=(List.range l.length).find? (rM l lab a)
def ji:Option Nat->Int
 | some n=>n
 | none=>-1
theorem Ta(h:s<D.length):rM D u ys s=((D[s].Y2.toList==u.toList) && !(D[s].Y1==1)&&je D s ys):=by grind [rM]
theorem jZ(b:o<f)(c:yv o=true)(a:∀i,i<o->yv i=false):(List.range f).find? yv=some o :=
 by simp_all
theorem jI(a:∀i,i<f->yv i=false):(List.range f).find? yv=none :=
 by grind
theorem jT(h:eW i S y D z)(N:D.length<=1073741824) :
  aU 184 #[pointer (some (X S y)),Y y0,J H] i (iw (J (ji (pt D y0 H))) i):=by have c:=h.at;go_enter func184,ntmps184;go_wp2;go_loopg [7] D.length (λg a wr=>∃k:Nat,k<=D.length/\g=D.length-k/\a=J k/\Z (∀a,a<k->rM D y0 H a=false)/\wr=i);{exact⟨0,by omega,by omega,rfl,λa r=>by omega,rfl⟩};obtain⟨k,M,L,rfl,b,rfl⟩:=hrel;by_cases d:k<D.length;{(obtain⟨g,A,I,K,F,G,s,t,u,v,w,x⟩:=h.YY.stmt k d;clear s t u v w x;rw[A]at c;have j:Z _:=Ta D y0 H k d;have o:Z (eW wr S y D z):=h;generalize D[k].Y2=C at *;generalize D[k].Y1=n at *;have next:Z (rM D y0 H k=false->∀a,a<k+1->rM D y0 H a=false):=by intro B a r;by_cases e:a=k;{subst e;exact B};{exact b a (by omega)});cases p:(C.toList==y0.toList);{have f:Z (rM D y0 H k=false):=(by show _=_;rw[j.o,p];simp);clear j h;go_wp2;go_roundg (D.length-(k+1));{exact⟨k+1,by omega,rfl,by go_num,next f,rfl⟩};omega};{cases l:(n==1);{have m:(n != 1)=true:=(by simp[bne,l]);cases q:je D k H;{have f:Z (rM D y0 H k=false):=(by show _=_;rw[j.o,q];simp);clear j h;go_wp2_with (go_at_call 186;refine(jf S y k H D z _ o d).mono ?_;rintro e E ⟨rfl,rfl⟩);go_roundg (D.length-(k+1));{exact⟨k+1,by omega,rfl,by go_num,next f,rfl⟩};omega};{have f:Z (pt D y0 H=some k):=jZ d (by rw[j.o,p,l,q];rfl) b;clear j h;go_wp2_with (go_at_call 186;refine(jf S y k H D z _ o d).mono ?_;rintro e E ⟨rfl,rfl⟩);go_ret;exact⟨aw (by rw[f.o];rfl),rfl⟩}};{have m:(n != 1)=false:=(by simp[bne,l]);have f:Z (rM D y0 H k=false):=cI (by rw[j.o,l];simp);clear j h;go_wp2;go_roundg (D.length-(k+1));{exact⟨k+1,by omega,rfl,by go_num,next f,rfl⟩};omega}}};{have f:Z (pt D y0 H=none):=jI (λa r=>b a (by omega));clear h;go_wp2;go_ret;exact⟨aw (by rw[f.o];rfl),rfl⟩}
def dM(w:World)(h:U)(l:Vy):Prop :=
 l=[]∨∃g off cur t,h.ao=some (X g off)/\w.heap[g]?=some (aJ cur t)/\(∀j x,l[j]?=some x->cur[off+j]?=some (Y x))/\l.length<=h.cap/\h.cap<=9223372036854775807
theorem aK.view(o:aK T yr (aG y8)):dM T yr y8:=by rcases o.YX with ⟨_,k,_⟩ | ⟨g,a,c,d,e,b,m,f⟩;{exact VY (Wa k)};{(refine VW ⟨g,0,a,_,c,d,?_,e,by unfold maxLen at b;exact b⟩;intro j x l;have i:a.toList.take (y8.length*1)=dA y8:=f;have:(dA y8)[j]?=some (Y x):=by simp[dA,l]);grind}
theorem dM.YZ(v:dM T yr y8)(k:O z7 T L)(f:∀x,yr.Y0=some x->x∉z7):dM L yr y8:=by rcases v with v | ⟨g,b,a,t,c,d,e⟩;{exact VY v};{exact VW ⟨g,b,a,t,c,k.get d (by grind [U.Y0]),e⟩}
theorem dM.YM(v:dM T yr y8)(k:aI T L):dM L yr y8:=v.YZ k (by simp)
theorem uG(h:yd=yg):cM (Y yd)=cM (Y yg):=by rw[h]
theorem RZ(p:dM i y5 z8)(n:z8.length<=1073741824) :
  aU 217 #[Q y5.ao z8.length y5.cap,Y u] i (iw (bool (bb z8 u)) i):=by obtain⟨r,j⟩:=y5;rcases p with rfl | ⟨g,b,l,t,e,m,v,w,x⟩;{clear n;go_enter func217,ntmps217;go_wp2;refine WS 1 ?_;rw[Xp];go_wp2;go_ret;exact⟨rfl,rfl⟩};{simp only at e;subst e;go_enter func217,ntmps217;go_wp2;go_loopg [5] z8.length (λg q wr=>∃k:Nat,k<=z8.length/\g=z8.length-k/\q=J k/\Z (bb z8 u=bb (z8.drop k) u)/\wr=i);{exact⟨0,by omega,by omega,rfl,rfl,rfl⟩};obtain⟨k,z,y,rfl,d,rfl⟩:=hrel;by_cases a:k<z8.length;{have s:aP wr g (b+k) (Y z8[k]):=(aC m (b+k)).trans (by grind);cases f:((z8[k]).toList==u.toList);{have c:Z _:=Hg z8 u k a d f;go_wp2;go_roundg (z8.length-(k+1));{grind};omega};{have c:Z _:=MV z8 u k a d f;go_wp2;go_ret;exact⟨aN c.o.symm,rfl⟩}};{have c:Z _:=Hh z8 u k a d;go_wp2;go_ret;exact⟨aN c.o.symm,rfl⟩}}
def bJ(s:St):Vx:=s.YH.getD 0 ⟨#[]⟩
def aF(s:St):Vx:=if(s.Y1==2)=true/\2<=s.YH.length then s.YH.getD 1 ⟨#[]⟩ else⟨#[]⟩
theorem iZ(h:s<z8.length):z8.getD s ⟨#[]⟩=z8[s]:=by grind
theorem se(q:dM i y2 m.YH)(x:m.YH.length<=1073741824) :
  aU 190 #[dV m y2 y5] i (kt (Y (bJ m)) i):=by unfold dV;obtain⟨s,j⟩:=y2;rcases q with l | ⟨g,b,k,t,e,f,n,v,w⟩;{(have a:Z (bJ m=⟨#[]⟩):=by show _=_;grind [bJ]);rw[l];simp only[List.length_nil];go_enter func190,ntmps190;go_wp2;go_ret;exact⟨uG a.o.symm,(O.refl _ _).alloc _⟩};{simp only at e;subst e;by_cases r:m.YH.length=0;{have c:((m.YH.length:Int)==0)=true:=(by simp[r]);have a:Z (bJ m=⟨#[]⟩):=cI (by grind [bJ]);go_enter func190,ntmps190;go_wp2;go_ret;exact⟨uG a.o.symm,(O.refl _ _).alloc _⟩};{have c:((m.YH.length:Int)==0)=false:=(by grind);have d:0<m.YH.length:=(by omega);have a:Z (bJ m=m.YH[0]):=iZ _ _ d;have u:aP i g b (Y m.YH[0]):=(aC f b).trans (n 0 _ (by simp));have p:=ae f;go_enter func190,ntmps190;go_wp2;go_ret;exact⟨uG a.o.symm,(O.refl _ _).alloc _⟩}}
theorem jM(p:dM i y2 m.YH)(w:m.YH.length<=1073741824) :
  aU 188 #[dV m y2 y5] i (kt (Y (aF m)) i):=by unfold dV;cases y:(m.Y1==2);{(have d:(m.Y1 != 2)=true:=by grind);have a:Z (aF m=⟨#[]⟩):=cI (by grind [aF]);go_enter func188,ntmps188;go_wp2;go_ret;exact⟨uG a.o.symm,(O.refl _ _).alloc _⟩};{(have d:(m.Y1 != 2)=false:=by grind);by_cases x:m.YH.length<2;{have a:Z (aF m=⟨#[]⟩):=(by show _=_;grind [aF]);go_enter func188,ntmps188;go_wp2;go_ret;exact⟨uG a.o.symm,(O.refl _ _).alloc _⟩};{have b:1<m.YH.length:=(by omega);obtain⟨q,j⟩:=y2;rcases p with l | ⟨g,c,k,t,e,f,s,u,v⟩;{rw[l]at b;simp at b};{simp only at e;subst e;have a:Z (aF m=m.YH[1]):=cI (by grind [aF,iZ]);have r:aP i g (c+1) (Y m.YH[1]):=(aC f (c+1)).trans (by grind);have n:=ae f;go_enter func188,ntmps188;go_wp2;go_ret;exact⟨uG a.o.symm,(O.refl _ _).alloc _⟩}}}
def tM(s:St)(syms:Vy):Bool:=if(s.Y1==2)=true then bb syms (aF s) else(s.Y1==3)
theorem zs(b:U)(l:Vy)(w:World)(q:dM w y2 m.YH)(i:dM w b l)(p:m.YH.length<=1073741824)(f:l.length<=1073741824) :
  aU 187 #[dV m y2 y5,Q b.ao l.length b.cap] w (kt (bool (tM m l)) w):=by have n:=λ(k:World) (g:dM k y2 m.YH)=>jM m y2 y5 k g p;have a:Z _:=n;unfold dV at a ⊢;cases r:(m.Y1==2);{(have c:Z (tM m l=(m.Y1==3)):=by show _=_;grind [tM]);go_enter func187,ntmps187;go_wp2;go_ret;exact⟨aN (by rw[c.o]),(O.refl _ _).alloc _⟩};{(have c:Z (tM m l=bb l (aF m)):=by show _=_;unfold tM;rw[r];simp);go_enter func187,ntmps187;go_wp2_with fail;refine(a _ (by exact q.YM (bQ.alloc _))).mono ?_;rintro e s ⟨rfl,d⟩;have j:=((O.refl [] w).alloc _).trans d;go_wp2_with fail;refine(RZ b l _ _ (by exact i.YM j) f).mono ?_;rintro e t ⟨rfl,rfl⟩;go_wp2;go_ret;exact⟨aN (by rw[c.o]),j⟩}
end Go.Proofs.YtpdholcaobgofaaGreat

import Derived.Test.YtnbalopedcgpcaaGreatJ03
namespace Go.Proofs.YtnbalopedcgpcaaGreat
open Go.RowKit Tryz
open Value IntKind Ending
set_option linter.all false
set_option maxHeartbeats 0
variable{m:Db}{T D yl y1 x4:Nat}{f o A:World}{y4:Option Nat}{z4 zK:List Value}{k t yz:Nat->Hd}{y5:Vu}{x0:Fs}{x3:List Bool}{y8 y9:Vq}{p:List St}{yv:Nat->Bool}{yc:Hd}{y2:Vs}(q u zo g x y H:Nat)(l:Fs)(z8:List Value)(i:List Bool)(z6:List Value)(z9:Vq)(M:List St)(z7:Nat->Hd)(yg zc:Vq)(yt yr zn:Int)(yu:Bool)(c:St)(zz y0:Hd)(z5:Vs)(z:Vq)(I:World)(x5 x6 x7 x8:Value)(y3 s:Nat)(ys y7:Option Nat)
structure nz(d:Db)(m:Nat):Prop where
  Zu:d.Zu.length<=m
  Zo:d.Zo.length+d.Zm.length<=m
  Zp:d.Zp.length+d.Zm.length<=m
  Zv:d.Zv.length+d.Zm.length<=m
  Zy:d.Zy.length+d.Zm.length<=m
  ZI:d.ZI.length<=m
  ZD:d.ZD.length<=m
  Zx:d.Zx.length<=m
  inner:∀p,p∈d.ZI->p.1<=m/\p.2<=m
  same:d.rbl.length=d.ZI.length
  recs:∀x,x∈d.rbl->x<=d.ZD.length
theorem nz.small{N:Nat}(h:nz m T)(b:T<=N):gK m N/\Gh m N :=
  ⟨⟨by have:=h.Zu;omega,by have:=h.Zo;omega,by have:=h.Zp;omega,by have:=h.Zv;omega,by have:=h.Zy;omega,by have:=h.ZI;omega,by have:=h.ZD;omega,by have:=h.ZI;have:=h.same;omega,by have:=h.Zo;omega,by have:=h.Zx;omega⟩,
   ⟨λp a=>by have:=h.inner p a;omega,h.same,h.recs⟩⟩
theorem nz.mono{m':Nat}(h:nz m T)(b:T<=m'):nz m m' :=
  ⟨by have:=h.Zu;omega,by have:=h.Zo;omega,by have:=h.Zp;omega,by have:=h.Zv;omega,by have:=h.Zy;omega,by have:=h.ZI;omega,by have:=h.ZD;omega,by have:=h.Zx;omega,λp a=>by have:=h.inner p a;omega,h.same,h.recs⟩
theorem nz.empty:nz bN 0:=by refine⟨?_,?_,?_,?_,?_,?_,?_,?_,?_,?_,?_⟩ <;> simp[bN]
theorem nz.plain(h:nz m T)(k:Int)(l:Vq)(b:Bool):nz { m with ZG:=k,ZH:=l,Zq:=b } T:=⟨h.Zu,h.Zo,h.Zp,h.Zv,h.Zy,h.ZI,h.ZD,h.Zx,h.inner,h.same,h.recs⟩
theorem tK:(dy M s).length=M.length:=lm M s M.length
theorem nz.declare(h:nz m T)(p:Pl):nz { cJ m p with ZG:=0,ZH:=⟨#[]⟩,Zm:=[],Zq:=false,Zx:=[] } (T+1):=by have d:=h.Zo;have e:=h.Zp;have f:=h.Zv;have g:=h.Zy;have a:=h.mono (Yr T);unfold cJ;split;{exact⟨a.Zu,by grind,by grind,by grind,by grind,a.ZI,a.ZD,by simp,a.inner,a.same,a.recs⟩};{split;{have:=JF m.Zp (m.Zm.take m.Zm.length);simp[List.take_length]at this;exact⟨a.Zu,by simp[fw];omega,by simp[fw];omega,by simp[fw];omega,by simp[fw];omega,a.ZI,a.ZD,by simp,a.inner,a.same,a.recs⟩};{unfold eD s8;have:=h.ZD;split;{next i=>exact⟨a.Zu,by grind,by grind,by grind,by grind,a.ZI,by grind,by simp,a.inner,a.same,λx b=>by have:=h.recs x b;grind⟩};{exact⟨a.Zu,by grind,by grind,by grind,by grind,a.ZI,by grind,by simp,a.inner,a.same,λx b=>by have:=h.recs x b;grind⟩}}}
theorem nz.take(h:nz m T)(x:Vq)(o:Pl):nz (aV m x o).2 (T+1):=by (have a:=h.mono (Yr T);have b:=λk=>a.plain k m.ZH m.Zq;have r:=h.Zu;have s:=h.Zo;have t:=h.Zp;have u:=h.Zv;have v:=h.Zy;have w:=h.ZI;have i:nz (bQ m x).2 (T+1):=by unfold bQ;split;{exact a};{split;{exact a};{split;{exact a};{exact⟨by grind,a.Zo,a.Zp,a.Zv,a.Zy,a.ZI,a.ZD,a.Zx,a.inner,a.same,a.recs⟩}}});(have g:nz (bj m x).2 (T+1):=by unfold bj;split;{exact b 2};{split;{exact b 3};{split;{exact b 4};{split;{exact b 5};{exact a}}}});(have f:nz (aL m x).2 (T+1):=by unfold aL;split;{refine⟨a.Zu,a.Zo,a.Zp,a.Zv,a.Zy,by grind,a.ZD,a.Zx,?_,by simp[h.same],?_⟩;{intro p j;simp[List.mem_append,List.mem_singleton]at j;rcases j with j | rfl;{exact a.inner p j};omega};{intro y c;simp[List.mem_append,List.mem_singleton]at c;rcases c with c | rfl;{exact h.recs y c};simp}};{split;{split;{exact a};{next p j => (unfold fE;have n:m.rbl≠[]:=by intro e;have:=h.same;grind);have⟨y,c⟩:∃y,m.rbl.getLast?=some y:=⟨_,YF n⟩;rw[c];refine⟨a.Zu,a.Zo,a.Zp,?_,?_,?_,?_,a.Zx,?_,?_,?_⟩;{grind [dN]};{grind [dN]};{grind [dN]};{show(dy m.ZD y).length<=_;rw[tK];exact a.ZD};{intro q l;simp[dN]at l;exact a.inner q (YG _ l)};{simp[dN,List.length_dropLast,h.same]};{intro q l;show q<=(dy m.ZD y).length;rw[tK];exact h.recs q (YG _ l)}}};{split;{split;{exact a};{exact b 7}};{split;{exact b 8};{split;{exact b 1};{split;{exact a};{exact i}}}}}});(have d:nz (lN m o).2 (T+1):=by unfold lN;split;{exact a};{split;{exact a};{exact h.declare o}});unfold aV;split;{exact f};{split;{exact g};{split;{exact d};{split;{unfold cI;split;{exact a};{exact a.plain m.ZG m.ZH true}};{split;{exact a};{split;{exact⟨a.Zu,a.Zo,a.Zp,a.Zv,a.Zy,a.ZI,a.ZD,by have:=h.Zx;grind,a.inner,a.same,a.recs⟩};{split;{exact⟨a.Zu,by grind,by grind,by grind,by grind,a.ZI,a.ZD,a.Zx,a.inner,a.same,a.recs⟩};{exact a}}}}}}}
def unb(fs:Fs)(bg:List Bool)(j:Nat):Nat:=if bg.getD j true=true then 0 else(aC fs j).size+2
def fR(fs:Fs)(bg:List Bool):Nat:=unb fs bg 0+unb fs bg 1+unb fs bg 2+unb fs bg 3
theorem Ao(e:i.length=4)(f:i.getD s true=false):fR l (i.set s true)+(aC l s).size+2=fR l i:=by
  match i,e with
  | [a,b,c,d],_ =>
    match s with
    | 0=>grind [fR,unb]
    | 1=>grind [fR,unb]
    | 2=>grind [fR,unb]
    | 3=>grind [fR,unb]
    | s+4=>grind
def Kin(fs:Fs)(bg:List Bool)(m:Nat)(r:Red):Prop :=
  r.2.1.length=4/\fR fs r.2.1<=fR fs bg/\∃m',nz r.2.2 m'/\m'+fR fs r.2.1<=m+fR fs bg
theorem Ju(i:∀j a d m,a.length=4->nz d m->Kin l a m (dz l s j a d))(x k:Nat)(a:List Bool)(d:Db)(m:Nat)(n:k<=(aC l x).size)(f:a.length=4)(e:nz d m)(o:aN (aA (aC l x) k).1=true) :
    Kin l a (m+1) (iC l s x k a d).1/\k<(iC l s x k a d).2/\(iC l s x k a d).2<=(aC l x).size:=by have g:=fG (aC l x) k n;have b:=g.2.2 o;unfold iC kt;split;{unfold qt;split;{exact⟨⟨f,Vw _,m,e,by simp only;omega⟩,b,g.2.1⟩};{next j u p => have c:=i j a d m f e;refine⟨⟨c.1,c.2.1,?_⟩,?_⟩;{have⟨q,r,t⟩:=c.2.2;grind};grind [KO,fG,aC,aA]}};{exact⟨⟨f,Vw _,m+1,e.take ..,by simp⟩,b,g.2.1⟩}
theorem SD(f:Nat):(∀x k a d m,k<=(aC l x).size->a.length=4->nz d m->(cE l f x k a d).2.1.length=4/\fR l (cE l f x k a d).2.1<=fR l a/\∃b,nz (cE l f x k a d).2.2 b/\b+fR l (cE l f x k a d).2.1<=m+((aC l x).size-k)+fR l a) /\
    (∀j a d m,a.length=4->nz d m->Kin l a m (dz l f j a d)):=by
  have g:∀f,(∀x k a d m,k<=(aC l x).size->a.length=4->nz d m->(cE l f x k a d).2.1.length=4/\fR l (cE l f x k a d).2.1<=fR l a/\∃b,nz (cE l f x k a d).2.2 b/\b+fR l (cE l f x k a d).2.1<=m+((aC l x).size-k)+fR l a) ->
      (∀j a d m,a.length=4->nz d m->Kin l a m (dz l f j a d)):=by
    intro f h j a d m e c;unfold dz;split
    · exact⟨e,Vw _,m,c,Vw _⟩
    · next w =>
      have i:a.getD j true=false:=(by grind);have y:=Ao l a j e i;have:=h j 0 (a.set j true) d m (Wp _) (by grind) c;refine⟨this.1,by omega,?_⟩
      grind
  induction f with
  | zero =>
    (grind [aC,cE,fR])
  | succ f p =>
    (have v:∀x k a d m,k<=(aC l x).size->a.length=4->nz d m->(cE l (f+1) x k a d).2.1.length=4/\fR l (cE l (f+1) x k a d).2.1<=fR l a/\∃b,nz (cE l (f+1) x k a d).2.2 b/\b+fR l (cE l (f+1) x k a d).2.1<=m+((aC l x).size-k)+fR l a:=by intro x k a d m q e c;cases o:aN (aA (aC l x) k).1 with|true=>{have⟨⟨s,E,r,t,F⟩,G,u⟩:=Ju l f p.2 x k a d m q e c o;cases n:((iC l f x k a d).1.1.1==0) with|true=>rw[Nl l f x k a d o n];have⟨A,B,z,C,D⟩:=p.1 x (iC l f x k a d).2 (iC l f x k a d).1.2.1 (iC l f x k a d).1.2.2 r u s t;grind|false=>grind [yI]}|false=>by_cases n:(aA (aC l x) k).1.ZK=true/\eH d=false;{grind [EI]};grind [zT]);(grind)
theorem Cb(k:Nat)(a:z.size<=1024):(bz z k).1.text.size<=1024:=by unfold bz;generalize z.size-k+1=f;induction f generalizing k with|zero=>simp[ck,ByteArray.size]|succ f b=>rw[ck];split;{split;{simp[ByteArray.size]};grind};{split;{simp[ByteArray.size]};grind [sB]}
theorem m8(k:Nat)(a:z.size<=1024):(aA z k).1.text.size<=1024:=by unfold aA;generalize z.size-k+1=f;induction f generalizing k with|zero=>simp[cZ,ByteArray.size]|succ f b=>grind [cZ,Cb,sB]
structure Rw where
 ZH:Vq
 Zs:Int
 why:Int
 at_:Pl
def kU(r:Rw):List Value:=[J r.ZH,Y r.Zs,Y r.why,J r.at_.ZL,Y r.at_.ZM,Y r.at_.ZN]
def ja(l:List Rw):List Value:=l.flatMap kU
def sR(l:List Rw):gY:=⟨69,6,l.length,ja l⟩
def cD:Pl:=⟨⟨#[]⟩,0,0⟩
def nZ:Rw:=⟨⟨#[]⟩,0,0,cD⟩
theorem Qd(l:List Rw)(s:Rw):(⟨(sR l).e,(sR l).size,(sR l).n+1,(sR l).xs++kU s⟩:gY)=sR (l++[s]):=by simp[sR,ja]
theorem NQ(s:Rw):∀u∈kU s,u.oneCell'=true:=by intro u a;simp only[kU,List.mem_cons,List.not_mem_nil,or_false]at a;rcases a with rfl | rfl | rfl | rfl | rfl | rfl <;> rfl
theorem zdq:(prog.info? 69).map (λi=>(i.zero,i.size,i.bytes))=some (some (agg #[dx,Y 0,Y 0,dx,Y 0,Y 0]),6,64):=by kernel_rfl
theorem Jk(l:List Rw):(ja l).length=l.length*6:=by induction l with|nil=>rfl|cons x r a=>have e:ja (x :: r)=kU x++ja r:=rfl;rw[e,Vz,a];simp[kU];omega
theorem FB(l:List Rw)(k:Nat)(b:k<l.length)(j:Nat)(a:j<6):(ja l)[k*6+j]?=(kU l[k])[j]?:=by induction l generalizing k with|nil=>grind|cons s r c=>{have e:ja (s :: r)=kU s++ja r:=rfl;rw[e];cases k with|zero=>grind [kU]|succ k=>grind [kU]}
def gR(p:Pl):Prop:=-1000000000<=p.ZM/\p.ZM<=1000000000
theorem nV{a:Array Value}{t:TypeId}{L:List Rw}(h:f.heap[T]?=some (aK a t))(g:∀(j:Nat) v,(ja L)[j]?=some v->a[j]?=some v)(k:Nat)(d:k<L.length) :
  bY f T (k*6) (J L[k].ZH)/\bY f T (k*6+1) (Y L[k].Zs)/\bY f T (k*6+2) (Y L[k].why)/\bY f T (k*6+3) (J L[k].at_.ZL)/\bY f T (k*6+4) (Y L[k].at_.ZM)/\bY f T (k*6+5) (Y L[k].at_.ZN):=by have c:=λj (b:j<6) v (e:(kU L[k])[j]?=some v)=>(ay h (k*6+j)).trans (g _ _ ((FB L k d j b).trans e));exact⟨c 0 (by omega) _ rfl,c 1 (by omega) _ rfl,c 2 (by omega) _ rfl,c 3 (by omega) _ rfl,c 4 (by omega) _ rfl,c 5 (by omega) _ rfl⟩
def gA:Option Nat->Nat->Value
 | none,_=>Q none 0 0
 | some g,n=>Q (some (aD g)) n n
def fj(w:World):Option Nat->List Rw->Prop
 | none,L=>L=[]
 | some g,L=>0<L.length/\w.heap[g]?=some (aK (ja L).toArray 69)
theorem fj.ZE{L:List Rw}{S:Vu}(h:fj f y4 L)(k:ab S f o)(a:∀g,y4=some g->g∉S):fj o y4 L:=by cases y4 with|none=>exact h|some g=>exact⟨h.1,k.get h.2 (a g rfl)⟩
theorem fj.Zr{L:List Rw}(h:fj f y4 L)(k:aJ f o):fj o y4 L:=h.ZE k (by simp)
theorem fj.lt{L:List Rw}(h:fj f y4 L)(g:Nat)(e:y4=some g):g<f.heap.size:=by subst e;exact ak h.2
structure Gl(L:List Rw):Prop where
 len:L.length<=100000
 ZM:∀r∈L,gR r.at_
theorem Jl(c:Int)(w:World)(b:-1000000000<=zn/\zn<=1000000000) :
  br 86 #[agg #[J yg,Y yt,Y yr,J zc,Y zn,Y c],agg #[J yg,Y yt,Y yr,J zc,Y zn,Y c],Y 0] w (mu (bool true) w):=by (have d:IntKind.i64.wrap (zn+0)=zn:=by rw[Wz];omega);cases a:(zc.toList == []);all_goals(go_enter func86,ntmps86;go_wp2;go_ret;exact⟨rfl,((ab.refl _ _).alloc _).alloc _⟩)
set_option maxRecDepth 100000
theorem tB(L:List Rw)(w:World)(a b:Array Value)(O P:TypeId)(l:w.heap[y]?=some (aK a O))(m:w.heap[H]?=some (aK b P))(S:∀(j:Nat) v,(ja L)[j]?=some v->a[j]?=some v)(T:∀(j:Nat) v,(ja L)[j]?=some v->b[j]?=some v)(U:L.length<=100000)(K:∀r∈L,gR r.at_) :
  br 63 #[Q (some (aD y)) L.length y3,Q (some (aD H)) L.length s,Y 0] w (mu (bool true) w):=by have I:=ak l;have nM:=ak m;go_enter func63,ntmps63;go_wp2;go_loopg [7,8] L.length (λg i _ wr=>∃k:Nat,k<=L.length/\g=L.length-k/\i=Y k/\aJ w wr);{exact⟨0,by omega,by omega,rfl,ab.refl _ _⟩};obtain⟨k,W,V,rfl,d⟩:=hrel;by_cases c:k<L.length;{obtain⟨o,p,q,t,u,x⟩:=nV (d.get l (by simp)) S k c;obtain⟨z,A,B,C,D,E⟩:=nV (d.get m (by simp)) T k c;have n:=K L[k] (VR c);have hs:=d.size;generalize L[k]=r at *;obtain⟨M,R,wy,⟨G,N,F⟩⟩:=r;simp only[gR]at o p q t u x z A B C D E n;go_upto_region 6 with fail;go_region_with (go_at_call 86;refine eJ (Jl M G R wy N F _ n) λw2 f=>?_);all_goals(have e:=d.trans ((ab.refl [] wr).drew.trans f);go_wp2;go_roundg (L.length-(k+1));{exact⟨k+1,by omega,rfl,by go_num,e⟩};omega)};{go_wp2;go_ret;exact⟨rfl,d⟩}
set_option maxRecDepth 512
theorem pU(a b:Vt)(c d:Nat)(w:World) :
  br 63 #[Q a 0 c,Q b 0 d,Y 0] w (mu (bool true) w):=by go_enter func63,ntmps63;go_wp2;refine Xe 1 ?_;rw[XB];go_wp2;go_ret;exact⟨rfl,ab.refl _ _⟩
theorem vP(L:List Rw)(w:World)(a:fj w ys L)(b:fj w y7 L)(d:Gl L) :
  br 63 #[gA ys L.length,gA y7 L.length,Y 0] w (mu (bool true) w):=by cases ys with|none=>{have c:L=[]:=a;subst c;cases y7 with|none=>exact pU _ _ _ _ _|some g=>exact absurd b.1 (by simp)}|some e=>{cases y7 with|none=>have c:L=[]:=b;subst c;exact absurd a.1 (by simp)|some f=>exact tB e f _ _ L w _ _ _ _ a.2 b.2 (λj v h=>by simpa using h) (λj v h=>by simpa using h) d.len d.ZM}
theorem zt(L M:List Rw)(w:World)(c:fj w ys L)(l:fj w y7 (L++M))(q:Gl (L++M)) :
  br 56 #[gA ys L.length,gA y7 (L++M).length] w (mu (bool true) w):=by
 have a:=q.len;have g:(L++M).length=L.length+M.length:=Vz;cases ys with
 | none =>
  have i:L=[]:=c;subst i;cases y7 with
  | none =>
   go_enter func56,ntmps56;unfold gA;go_wp2_with fail;refine(pU _ _ _ _ _).mono ?_;rintro e s ⟨rfl,b⟩;go_wp2;go_ret;exact⟨rfl,b⟩
  | some k =>
   go_enter func56,ntmps56;unfold gA;simp only[List.nil_append]at a ⊢;generalize M.length=n at *;go_wp2_with fail;refine(pU _ _ _ _ _).mono ?_;rintro e s ⟨rfl,b⟩;go_wp2;go_ret;exact⟨rfl,b⟩
 | some y =>
  cases y7 with
  | none =>
       have i:L++M=[]:=l;have:L.length=0:=(by rw[(Xs.1 i).1];rfl);have:=c.1;omega
  | some k =>
   have t:=λu x=>tB y k u x L w _ _ _ _ c.2 l.2 (λj v h=>by simpa using h) (λj v f=>by
    have o:=(VV.1 f).1;unfold ja at f o ⊢;rw[Wn];simp only[List.getElem?_toArray];rw[Wc o];exact f) (by omega) (λr z=>q.ZM r (Wu _ z))
   have d:Z _:=t;have p:=c.1;rw[g]at a ⊢;generalize L.length=n at *;generalize M.length=m at *;go_enter func56,ntmps56;unfold gA;go_wp2_with fail;refine(d _ _).mono ?_;rintro e s ⟨rfl,b⟩;go_wp2;go_ret;exact⟨rfl,b⟩
theorem nK :
  br 138 #[agg #[J yg,Y yt,bool yu,J zc,Y yr,Y zn]] I (mu (agg #[Y (if yu=true then 7 else yt),J zc,Y yr,Y zn]) I):=by cases yu;{go_enter func138,ntmps138;go_wp2;exact VQ (v:=agg #[Y yt,J zc,Y yr,Y zn]) (by simp[results,results138,go_sem]) rfl ⟨rfl,((ab.refl ..).alloc _).alloc _⟩};{go_enter func138,ntmps138;go_wp2;exact VQ (v:=agg #[Y 7,J zc,Y yr,Y zn]) (by simp[results,results138,go_sem]) rfl ⟨rfl,((ab.refl ..).alloc _).alloc _⟩}
def fd(v:Nat)(bg:List Bool):List Value:=bB v :: bg.map bool
theorem jy(h:i.length=4):(fd H i).length=5:=by simp[fd,h]
theorem bt.pre(h:bt f T D z4 zK m k)(i:Nat)(a:i<z4.length)(u:Value) :
  bt (f.setCell (X T i) u) T D (z4.set i u) zK m k/\aj T f k (f.setCell (X T i) u) k:=by refine⟨⟨?_,?_,h.apart,h.off⟩,(eR.refl ..).setCell (by simp) _,by grind⟩;{rw[ac h.ZF,WL,List.set_append_left _ _ a]};{intro j;refine(h.ZP j).Zw (λc b=>VB _ _ _ _ ?_);rintro rfl;exact h.off j b}
theorem bt.preCell(h:bt f T D z4 zK m k)(i:Nat)(a:i<z4.length):f.cell? (X T i)=z4[i]?:=by rw[ay h.ZF];grind
def gJ(b sp:Nat)(w:World)(H:Nat->Hd)(w':World)(H':Nat->Hd):Prop :=
 eR (λk=>k=b∨k=sp∨dw H k) w w'/\∀k,dw H' k->dw H k∨w.heap.size<=k
theorem aj.Zw{w':World}(a:aj T f k w' t):gJ T s f k w' t :=
 ⟨⟨a.1.os,a.1.tape,a.1.output,a.1.size,λc b d=>a.1.block c b (by grind)⟩,a.2⟩
theorem gJ.trans{w1:World}(a:gJ T D f k w1 t)(c:gJ T D w1 t o yz):gJ T D f k o yz:=by refine⟨⟨c.1.os.trans a.1.os,c.1.tape.trans a.1.tape,c.1.output.trans a.1.output,VU a.1.size c.1.size,?_⟩,?_⟩;{intro b d i;rw[<-a.1.block b d i];refine c.1.block b (VD d a.1.size) ?_;rintro (e | e | g);{omega};{omega};{rcases a.2 b g with h | h;{grind};{omega}}};{intro b d;rcases c.2 b d with h | h;{exact a.2 b h};{exact VO (VU a.1.size h)}}
theorem gJ.refl(a:Nat->Hd):gJ y H I a I a:=⟨eR.refl ..,λ_ b=>VS b⟩
theorem gJ.Zr(a:gJ T D f k o t)(c:aJ o A):gJ T D f k A t :=
 a.trans ⟨c.toP (by simp),by grind⟩
theorem gJ.first(c:aJ f o)(a:gJ T D o k A t):gJ T D f k A t :=
 gJ.trans ⟨c.toP (by simp),by grind⟩ a
theorem gJ.scan(a:gJ T D f k o t)(c:ab [D] o A):gJ T D f k A t :=
 a.trans ⟨c.toP (by simp),by grind⟩
theorem gJ.beyond(a:gJ T D f k o t)(b:ab y5 o A)(e:∀x,x∈y5->f.heap.size<=x):gJ T D f k A t :=
 ⟨⟨b.os.trans a.1.os,b.tape.trans a.1.tape,b.output.trans a.1.output,VU a.1.size b.size,λi c d=>by
  rw[<-a.1.block i c d];exact b.block i (VD c a.1.size) (by grind)⟩,a.2⟩
theorem gJ.fresh(a:gJ T D f k o t)(F:Nat)(c:F<f.heap.size)(d:¬dw k F):¬dw t F:=by intro b;rcases a.2 F b with h | h;{grind};{omega}
theorem aj.fresh(a:aj T f k o t)(F:Nat)(c:F<f.heap.size)(d:¬dw k F):¬dw t F:=by intro b;rcases a.2 F b with h | h;{grind};{omega}
theorem jx{w:World}{r:Nat}:ab [r] w ((((w.setCell (aD r) x5).setCell (X r 1) x6).setCell (X r 2) x7).setCell (X r 3) x8) :=
 ((((ab.refl ..).sl1 _).sl1 _).sl1 _).sl1 _
theorem Mb(a b:Value):ab [T] f ((((((f.setCell (aD T) x5).setCell (X T 1) x6).setCell (X T 2) x7).setCell (X T 3) x8).setCell (X T 4) a).setCell (X T 5) b) :=
 ((((((ab.refl ..).sl1 _).sl1 _).sl1 _).sl1 _).sl1 _).sl1 _
def bM:Array Value:=#[Y 0,dx,Y 0,Y 0]
theorem cT(h:f.heap[T]?=some (aK bM 85)) :
  bY f T 0 (Y 0)/\bY f T 1 (dx)/\bY f T 2 (Y 0)/\bY f T 3 (Y 0):=by refine⟨?_,?_,?_,?_⟩ <;> exact iY h rfl
theorem oF{F:Nat}(i:bt o T D z4 zK m t)(b:aj T f k o t)(a:f.heap.size<=F)(j:T≠F)(l:¬dw t F)(c d e g:Value) :
  bt ((((o.setCell (aD F) c).setCell (X F 1) d).setCell (X F 2) e).setCell (X F 3) g) T D z4 zK m t /\
  aj T f k ((((o.setCell (aD F) c).setCell (X F 1) d).setCell (X F 2) e).setCell (X F 3) g) t:=by refine⟨i.ZE (jx ..) (by grind) (by grind),?_,b.2⟩;exact(((b.1.setCell (VO a) _).setCell (VO a) _).setCell (VO a) _).setCell (VO a) _
set_option maxRecDepth 100000
theorem wW(D:i.length=4)(d:Db)(q:Nat->Hd)(sp:Value)(j n:Vq)(l c:Int)(w:World)(h:bt w x y (fd H i) [] d q)(hs:gK d 10000000)(hx:j.size<=1073741824)(hi:Gh d 100000000)(hn:(j.toList == [36,91])=false) :
  br 136 #[bB x,sp,agg #[J j,Y 0,bool false,J n,Y l,Y c]] w λe g =>
   e=cA (iT (if((aV d j ⟨n,l,c⟩).1==0)=true then cV else((aV d j ⟨n,l,c⟩).1,⟨n,l,c⟩))) /\
   ∃O,bt g x y (fd H i) [] (aV d j ⟨n,l,c⟩).2 O/\aj x w q g O:=by
 have af:=h.lt;have C:=λ(g:World) (h':bt g x y (fd H i) [] d q)=>Ve x y 5 (fd H i) [] d q j n l c g h' (jy H i D) hs hx hi;unfold iO at C;have u:Z _:=C;clear C;generalize aV d j ⟨n,l,c⟩=td at *;have⟨r,d'⟩:=td;simp only at u;have⟨W,B⟩:∃W,W=((w.alloc (aK #[J j,Y 0,bool false,J n,Y l,Y c] 223)).alloc (aK #[Y 0,dx,Y 0,Y 0] 85)):=⟨_,rfl⟩;(have T:aJ w W:=by rw[B];exact((ab.refl [] w).alloc _).alloc _);(have P:=h.Zr T;have S:W.heap[w.heap.size]?=some (aK #[J j,Y 0,bool false,J n,Y l,Y c] 223):=by rw[B];exact(bH.alloc _).gt (Vx ..));(have R:W.heap[w.heap.size+1]?=some (aK bM 85):=by rw[B];have:=Vx (w.alloc (aK #[J j,Y 0,bool false,J n,Y l,Y c] 223)) (aK #[Y 0,dx,Y 0,Y 0] 85);simpa [bM] using this);(have t:Z (∀k,w.heap.size<=k->¬(k=x∨dw q k)):=by rintro k hk (e | E);{omega};{have:=h.inlt E;omega});have U:Z _:=B.symm;clear B h;have⟨i0,_,_,i3,i4,i5⟩:=zfr S
 have z:=(show Z _ from λ(a:World) (b:Nat->Hd) (v:bt a x y (fd H i) [] d' b) (f:aj x W.drew q a b) (V a1 a2 a3:Value) =>
  oF v ((f.first (ab.refl [] W).drew).first T) (F:=w.heap.size+1) (by omega) (by omega) (f.fresh (w.heap.size+1) (by exact ak R) (λE=>t (w.heap.size+1) (by omega) (VO E))) V a1 a2 a3)
 have s:Z _:=λ(a:World) (b:Nat->Hd) (f:aj x W.drew q a b)=>(show _/\_ from⟨f.1.get (by exact S) (t _ (Vw _)),f.1.get (by exact R) (t _ (by omega))⟩);(have N:∀(a:World) (b:Nat->Hd) (_:aj x W.drew q a b),a.cell? (aD w.heap.size)=some (J j)/\a.cell? (X w.heap.size 3)=some (J n)/\a.cell? (X w.heap.size 4)=some (Y l)/\a.cell? (X w.heap.size 5)=some (Y c):=by intro a b f;have ad:=(s a b f).1;grind [iY]);have A:Z _:=N;clear N;go_enter func136,ntmps136;go_upto_region 1 with fail;rw[U.o];go_upto_region 3 with fail;cases hr:(r==0)
 ·(have G:(r != 0)=true:=by grind);go_region_held3 (λg=>g.cell? (aD w.heap.size)=some (J j)/\g.cell? (X w.heap.size 3)=some (J n)/\g.cell? (X w.heap.size 4)=some (Y l)/\g.cell? (X w.heap.size 5)=some (Y c)) (go_keep) (first | (go_at_call 155;refine(u _ (by exact P.Zr bH.drew)).mono ?_;rintro e a ⟨rfl,b,v,f⟩;have⟨r0,r3,r4,r5⟩:=A a b f))
  all_goals
   have p:=(s a b f).2;have m:Z _:=z a b v f;have⟨I,K,L,M⟩:=cT p;have ag:=aE p;go_wp2;exact VQ (v:=agg #[Y r,J n,Y l,Y c]) (by simp[results,results136,go_sem,I,K,L,M]) rfl
    ⟨rfl,b,(m _ _ _ _).1,(m ..).2⟩
 ·(have G:(r != 0)=false:=by grind);go_region_held3 (λg=>g.cell? (aD w.heap.size)=some (J j)/\g.cell? (X w.heap.size 3)=some (J n)/\g.cell? (X w.heap.size 4)=some (Y l)/\g.cell? (X w.heap.size 5)=some (Y c)) (go_keep) (first | (go_at_call 155;refine(u _ (by exact P.Zr bH.drew)).mono ?_;rintro e a ⟨rfl,b,v,f⟩;have⟨r0,r3,r4,r5⟩:=A a b f))
  all_goals
   have p:=(s a b f).2;have m:Z _:=z a b v f;have⟨I,K,L,M⟩:=cT p;have ag:=aE p;go_wp2;exact VQ (v:=agg #[Y 0,dx,Y 0,Y 0]) (by simp[results,results136,go_sem,I,K,L,M]) rfl
    ⟨rfl,b,(m ..).1,(m ..).2⟩
def jM(b v:Nat)(fs:Fs)(f j:Nat)(bg:List Bool)(d:Db)(H:Nat->Hd)(w:World):Prop :=
 br 112 #[bB b,Y j] w λe w'=>e=cA (iT (dz fs f j bg d).1)/\∃H',bt w' b 186 (fd v (dz fs f j bg d).2.1) [] (dz fs f j bg d).2.2 H'/\aj b w H w' H'
theorem ki{F:Nat}(e:bt o T D z4 zK m t)(g:gJ T yl f k o t)(i:f.heap.size<=F)(j:T≠F)(l:¬dw t F)(a b c d:Value) :
  bt ((((o.setCell (aD F) a).setCell (X F 1) b).setCell (X F 2) c).setCell (X F 3) d) T D z4 zK m t /\
  gJ T yl f k ((((o.setCell (aD F) a).setCell (X F 1) b).setCell (X F 2) c).setCell (X F 3) d) t :=
 ⟨e.ZE (jx ..) (by grind) (by grind),g.beyond (jx ..) (by grind)⟩
theorem tm:iT (kE z9 yg ⟨zc,zn,yu,s⟩)=agg #[Y (if yu=true then 7 else zn),J z9,Y (ba yg s),Y (cm yg s)]:=rfl
structure uw(w w':World)(b v tt sp z:Nat)(fs:Fs)(more:List Value)(bg:List Bool)(d:Db)(H:Nat->Hd)(n s:Vq):Prop where
 D:bt w' b 186 (fd v bg) [] d H
 TB:cU w' v tt fs more
 SC:cB w' sp n s z
 F:w'.heap[w.heap.size+1]?=some (aK bM 85)
 M:gJ b sp w H w' H
theorem uw.Zr(S:uw f o T D yl y1 x4 x0 z4 x3 m k y8 y9)(a:aJ o A):uw f A T D yl y1 x4 x0 z4 x3 m k y8 y9 :=
 ⟨S.D.Zr a,S.TB.ZE a (by simp),S.SC.ZE a (by simp),a.gt S.F,S.M.Zr a⟩
theorem uw.next{b:Nat}(S:uw f o T D yl y1 x4 x0 z4 x3 m k y8 y9)(a:ab [y1] o A)(c:cB A y1 y8 y9 b)(d:y1≠T)(e:D≠y1)(g:¬dw k y1)(i:y1<f.heap.size):uw f A T D yl y1 b x0 z4 x3 m k y8 y9 :=
 ⟨S.D.ZE a (by grind) (by grind),S.TB.ZE a (by grind),c,a.get S.F (by grind),S.M.scan a⟩
theorem Hy(a9:i.length=4)(d:Db)(z:Nat->Hd)(n s:Vq)(v c:Int)(w:World)(h:bt w q 186 (fd u i) [] d z)(hn:cK l y=n)(bw:aC l y=s)(hs:s.size<=1024)(hz:H<=s.size)(aq:cB w g n s H)(ht:cU w u zo l z8)(am:g≠q)(bh:u≠g)(bf:¬dw z g)(RF:Z (∀(j:Nat) (w':World),j<l.length->bt w' q 186 (fd u i) [] d z->cU w' u zo l z8->jM q u l x j i d z w')) :
  br 154 #[bB q,bB g,agg #[J n,Y v,Y c]] w λe w' =>
   e=cA (iT (qt (dz l x) l y H ⟨n,v,c⟩ i d).1.1)/\∃H',bt w' q 186 (fd u (qt (dz l x) l y H ⟨n,v,c⟩ i d).1.2.1) [] (qt (dz l x) l y H ⟨n,v,c⟩ i d).1.2.2 H'/\gJ q g w z w' H' /\
    (((qt (dz l x) l y H ⟨n,v,c⟩ i d).1.1.1==0)=true->cB w' g n s (qt (dz l x) l y H ⟨n,v,c⟩ i d).2):=by
 have⟨W,hW⟩:∃W,W=((w.alloc (aK #[J n,Y v,Y c] 67)).alloc (aK #[Y 0,dx,Y 0,Y 0] 85)):=⟨_,rfl⟩;(have hK:aJ w W:=by rw[hW];exact((ab.refl [] w).alloc _).alloc _);(have b8:=h.lt;have an:=ak aq;have D:bt W q 186 (fd u i) [] d z:=h.Zr hK;have SC:cB W g n s H:=aq.ZE hK (by simp);have TB:cU W u zo l z8:=ht.ZE hK (by simp);have hP:W.heap[w.heap.size]?=some (aK #[J n,Y v,Y c] 67):=by rw[hW];exact(bH.alloc _).gt (Vx ..));(have hF:W.heap[w.heap.size+1]?=some (aK bM 85):=by rw[hW];have:=Vx (w.alloc (aK #[J n,Y v,Y c] 67)) (aK #[Y 0,dx,Y 0,Y 0] 85);simpa [bM] using this);(have B:Z (∀k,w.heap.size<=k->¬dw z k):=λk hk hm=>by have:=h.inlt hm;omega);have HW:Z _:=hW.symm;have b6:=ak hF;have MK:Z (gJ q g w z W z):=(gJ.refl q g w z).Zr hK;clear hW h aq ht;have E:Z (qt (dz l x) l y H ⟨n,v,c⟩ i d=match KO l y H ⟨n,v,c⟩ d with | .inl ai=>((ai,i,d),H) | .inr (j,z')=>(dz l x j i d,z')):=rfl;have A:Z (KO l y H ⟨n,v,c⟩ d=_):=(show KO l y H ⟨n,v,c⟩ d=_ from by unfold KO;rw[hn,bw]);cases ho:eH d
 ·have av:=fG s H hz;have b2:=m8 s H hs;have bk:=fG s (aA s H).2 av.2.1;have bb:=GY (aA s H).1.text l;generalize hr1:aA s H=r1 at *;have⟨⟨U,u1,f1,C⟩,z1⟩:=r1;simp only at av b2 bk bb A;have b3:=m8 s z1 hs;generalize hr2:aA s z1=r2 at *;have⟨⟨t2,u2,f2,O⟩,z2⟩:=r2;simp only at bk b3 A;rw[ho]at A;have S0:uw w W q u zo g H l z8 i d z n s:=⟨D,TB,SC,hF,MK.o⟩;go_enter func154,ntmps154;go_upto_region 1 with fail;rw[HW.o];go_wp2_with fail;refine(vE q 186 5 (fd u i) [] d z _ D (jy u i a9)).mono ?_;rintro e w1 ⟨rfl,T⟩;subst T;rw[ho];go_wp2_with fail;refine(vA g H n s _ hs hz SC).mono ?_;rintro e w2 ⟨rfl,V,bc⟩;rw[hr1]at V ⊢;simp[f9]at V ⊢;have S2:=S0.next bc V am bh bf an;have⟨W3,af⟩:∃W3,W3=w2.alloc (aK #[J U,Y u1,bool f1,J n,Y (ba s C),Y (cm s C)] 223):=⟨_,rfl⟩;(have a6:Z _:=af.symm;have S3:uw w W3 q u zo g z1 l z8 i d z n s:=by rw[af];exact S2.Zr (bH.alloc _));(have I3:jW W3 w2.heap.size n s ⟨U,u1,f1,C⟩:=by rw[af];exact Vx ..);clear af S0 S2 V bc D TB SC hP hF hK HW hr1;go_upto_region 4 with fail;rw[a6.o];clear a6;have⟨f,m,p,t,a4,a5⟩:=I3.cells;go_wp2_with fail;refine(dL U n u1 (ba s C) (cm s C) f1 _).mono ?_;rintro e w4 ⟨rfl,ao⟩;have G:=S3.Zr ao;have I4:=I3.ZE ao (by simp);clear f m p t a4 a5 S3 I3 ao;have⟨f,m,p,t,a4,a5⟩:=I4.cells;have b7:=ak I4;have b4:=ak G.F;cases T:(u1==0 && !f1)
  ·(have b:Z (qt (dz l x) l y H ⟨n,v,c⟩ i d=((kE n s ⟨U,u1,f1,C⟩,i,d),H)):=by show _=_;rw[E.o,A.o];simp[aN,T]);clear E A;go_wp2_with fail;refine(nK U n u1 (ba s C) (cm s C) f1 _).mono ?_;rintro e w5 ⟨rfl,bs⟩;have⟨ai,hq⟩:∃ai:Int,Z ((if f1=true then(7:Int) else u1)=ai):=⟨_,rfl⟩
   rw[hq.o];have P:=G.Zr bs;have⟨I,K,L,N⟩:=cT P.F;have ax:=aE P.F;have a:Z _:=(λf m p t=>ki P.D P.M (F:=w.heap.size+1) (by omega) (by omega) (B.o _ (by omega)) f m p t);clear f m p t a4 a5;go_wp2;exact VQ (v:=agg #[Y ai,J n,Y (ba s C),Y (cm s C)]) (by simp[results,results154,go_sem,I,K,L,N]) rfl
    ⟨by rw[b.o,tm,hq.o],z,by rw[b.o];exact(a.o ..).1,(a.o ..).2,by
     rw[b.o];grind [kE]⟩
  ·have bx:u1=0:=(by grind);have bp:f1=false:=(by grind);subst bx bp;cases bo:eX U
   ·have b0:bY w4 q 0 (bB u):=G.D.preCell 0 (by simp[fd]);rcases bb with be | ⟨j,hj,ah⟩
    ·(have b:Z (qt (dz l x) l y H ⟨n,v,c⟩ i d=(((6,il n s C),i,d),H)):=by show _=_;rw[E.o,A.o];grind [aN])
     clear E A;(go_upto_region 8 with (go_at_call 171;refine(fo U _ (by omega)).mono ?_;rintro e w5 ⟨rfl,rfl⟩));go_quiet ((go_at_call 48;exact V9 (oB u zo l z8 U _ (G.Zr (bH.drewN _)).TB)));have P:=G.Zr (bH.drewN nq);rw[be];have⟨I,K,L,N⟩:=cT G.F;have ax:=aE G.F;have a:Z _:=(λf m p t=>ki P.D P.M (F:=w.heap.size+1) (by omega) (by omega) (B.o _ (by omega)) f m p t);go_wp2;exact VQ (v:=agg #[Y 6,J n,Y (ba s C),Y (cm s C)]) (by simp[results,results154,go_sem,I,K,L,N]) rfl
      ⟨by rw[b.o];rfl,z,by rw[b.o];exact(a.o ..).1,(a.o ..).2,by rw[b.o];simp⟩
    ·(go_upto_region 8 with (go_at_call 171;refine(fo U _ (by omega)).mono ?_;rintro e w5 ⟨rfl,rfl⟩));go_quiet ((go_at_call 48;exact V9 (oB u zo l z8 U _ (G.Zr (bH.drewN _)).TB)));rw[ah];have P:=G.Zr (bH.drewN nq);go_wp2_with fail;refine(vA g z1 n s _ hs av.2.1 P.SC).mono ?_;rintro e w6 ⟨rfl,ad,bd⟩;rw[hr2]at ad ⊢;simp[f9]at ad ⊢;have S6:=P.next bd ad am bh bf an;have⟨W7,ag⟩:∃W7,W7=w6.alloc (aK #[J t2,Y u2,bool f2,J n,Y (ba s O),Y (cm s O)] 223):=⟨_,rfl⟩;(have a7:Z _:=ag.symm;have S7:uw w W7 q u zo g z2 l z8 i d z n s:=(by rw[ag];exact S6.Zr (bH.alloc _));have I7:jW W7 w6.heap.size n s ⟨t2,u2,f2,O⟩:=(by rw[ag];exact Vx ..);clear ag G P S6 ad bd I4 f m p t a4 a5 b0;(go_upto_region 12 with fail);rw[a7.o];clear a7;have⟨f,m,p,t,a4,a5⟩:=I7.cells;go_wp2_with fail;refine(dL t2 n u2 (ba s O) (cm s O) f2 _).mono ?_;rintro e w8 ⟨rfl,ap⟩;have S:=S7.Zr ap;have I8:=I7.ZE ap (by simp);clear f m p t a4 a5 S7 I7 ap;have⟨f,m,p,t,a4,a5⟩:=I8.cells;have a8:=ak S.F;have ca:¬((j:Int)<0):=by omega);cases cb:(u2==0 && !f2)
     ·(have b:Z (qt (dz l x) l y H ⟨n,v,c⟩ i d=((kE n s ⟨t2,u2,f2,O⟩,i,d),H)):=by show _=_;rw[E.o,A.o,ah];grind [aN]);clear E A;go_wp2_with fail;refine(nK t2 n u2 (ba s O) (cm s O) f2 _).mono ?_;rintro e w9 ⟨rfl,bv⟩;have⟨ai,hq⟩:∃ai:Int,Z ((if f2=true then(7:Int) else u2)=ai):=⟨_,rfl⟩
      rw[hq.o];have S9:=S.Zr bv;have⟨I,K,L,N⟩:=cT S9.F;have ax:=aE S9.F;have a:Z _:=(λf m p t=>ki S9.D S9.M (F:=w.heap.size+1) (by omega) (by omega) (B.o _ (by omega)) f m p t);clear f m p t a4 a5;go_wp2;exact VQ (v:=agg #[Y ai,J n,Y (ba s O),Y (cm s O)]) (by simp[results,results154,go_sem,I,K,L,N]) rfl
       ⟨by rw[b.o,tm,hq.o],z,by rw[b.o];exact(a.o ..).1,(a.o ..).2,by
        rw[b.o];grind [kE]⟩
     ·have b1:u2=0:=(by grind);have bq:f2=false:=(by grind);subst b1 bq;cases b9:(t2.toList == [36,93])
      ·(have b:Z (qt (dz l x) l y H ⟨n,v,c⟩ i d=(((5,il n s O),i,d),H)):=by show _=_;rw[E.o,A.o,ah];grind [aN])
       clear E A;have⟨I,K,L,N⟩:=cT S.F;have ax:=aE S.F;have a:Z _:=(λf m p t=>ki S.D S.M (F:=w.heap.size+1) (by omega) (by omega) (B.o _ (by omega)) f m p t);go_wp2;exact VQ (v:=agg #[Y 5,J n,Y (ba s O),Y (cm s O)]) (by simp[results,results154,go_sem,I,K,L,N]) rfl
        ⟨by rw[b.o];rfl,z,by rw[b.o];exact(a.o ..).1,(a.o ..).2,by rw[b.o];simp⟩
      ·(have b:Z (qt (dz l x) l y H ⟨n,v,c⟩ i d=(dz l x j i d,z2)):=by show _=_;rw[E.o,A.o,ah];grind [aN])
       clear E A;have RJ:=RF.o j w8 hj S.D S.TB;unfold jM at RJ;have az:Z _:=RJ;clear RJ RF;generalize dz l x j i d=R at *;obtain⟨⟨r,pf,pl,pc⟩,b5,d'⟩:=R;simp only[iT]at az;go_wp2_with fail;refine VC az.o ?_;rintro e w9 ⟨rfl,H9,D9,T9⟩;have F9:=T9.1.get S.F (by rintro (e | e);omega;exact B.o _ (by omega) e);have bm:cB w9 g n s z2:=T9.1.get S.SC (by grind);have⟨I,K,L,N⟩:=cT F9;have ax:=aE F9;have a:Z _:=(λf m p t=>ki D9 (S.M.trans (T9.Zw g)) (F:=w.heap.size+1) (by omega) (by omega) (T9.fresh _ a8 (B.o _ (by omega))) f m p t);have bl:Z _:=(λf m p t=>bm.ZE (jx (r:=w.heap.size+1) f m p t) (by grind));clear f m p t a4 a5;go_wp2;exact VQ (v:=agg #[Y r,J pf,Y pl,Y pc]) (by simp[results,results154,go_sem,I,K,L,N]) rfl
        ⟨by rw[b.o];rfl,H9,by rw[b.o];exact(a.o ..).1,(a.o ..).2,by rw[b.o];exact λ_=>bl.o ..⟩
   ·(have b:Z (qt (dz l x) l y H ⟨n,v,c⟩ i d=(((5,il n s C),i,d),H)):=by show _=_;rw[E.o,A.o];simp[aN,bo])
    clear E A;have⟨I,K,L,N⟩:=cT G.F;have ax:=aE G.F;have a:Z _:=(λf m p t=>ki G.D G.M (F:=w.heap.size+1) (by omega) (by omega) (B.o _ (by omega)) f m p t);go_wp2_with (go_at_call 171;refine(fo U _ (by omega)).mono ?_;rintro e w5 ⟨rfl,rfl⟩);exact VQ (v:=agg #[Y 5,J n,Y (ba s C),Y (cm s C)]) (by simp[results,results154,go_sem,I,K,L,N]) rfl
     ⟨by rw[b.o];rfl,z,by rw[b.o];exact(a.o _ _ _ _).1,(a.o ..).2,by rw[b.o];simp⟩
 ·(have b:Z (qt (dz l x) l y H ⟨n,v,c⟩ i d=(((4,⟨n,v,c⟩),i,d),H)):=by show _=_;rw[E.o,A.o,ho];simp);clear E A;have⟨i0,i1,i2⟩:=Eh hP;have⟨I,K,L,N⟩:=cT hF;have ax:=aE hF;have a:Z _:=(λf m p t=>ki D MK.o (F:=w.heap.size+1) (by omega) (by omega) (B.o _ (by omega)) f m p t);go_enter func154,ntmps154;go_upto_region 1 with fail
  rw[HW.o];go_wp2_with fail;refine(vE q 186 5 (fd u i) [] d z _ D (jy u i a9)).mono ?_;rintro e w1 ⟨rfl,T⟩;subst T;rw[ho];go_wp2;exact VQ (v:=agg #[Y 4,J n,Y v,Y c]) (by simp[results,results154,go_sem,I,K,L,N]) rfl
   ⟨by rw[b.o];rfl,z,by rw[b.o];exact(a.o ..).1,(a.o ..).2,by rw[b.o];simp⟩
theorem Fq(C:i.length=4)(d:Db)(b:Nat->Hd)(n s t:Vq)(a c:Int)(w:World)(h:bt w q 186 (fd u i) [] d b)(hn:cK l y=n)(U:aC l y=s)(hs:s.size<=1024)(hz:H<=s.size)(m:cB w g n s H)(ht:cU w u zo l z8)(E:g≠q)(ag:u≠g)(V:¬dw b g)(ad:gK d 10000000)(af:t.size<=1073741824)(T:Gh d 100000000)(RF:Z (∀(j:Nat) (f:World),j<l.length->bt f q 186 (fd u i) [] d b->cU f u zo l z8->jM q u l x j i d b f)) :
  br 136 #[bB q,bB g,agg #[J t,Y 0,bool false,J n,Y a,Y c]] w λe f =>
   e=cA (iT (kt (dz l x) l y H t ⟨n,a,c⟩ i d).1.1)/\∃G,bt f q 186 (fd u (kt (dz l x) l y H t ⟨n,a,c⟩ i d).1.2.1) [] (kt (dz l x) l y H t ⟨n,a,c⟩ i d).1.2.2 G/\gJ q g w b f G /\
    (((kt (dz l x) l y H t ⟨n,a,c⟩ i d).1.1.1==0)=true->cB f g n s (kt (dz l x) l y H t ⟨n,a,c⟩ i d).2):=by
 cases hi:(t.toList == [36,91]);{(have I:kt (dz l x) l y H t ⟨n,a,c⟩ i d=((if((aV d t ⟨n,a,c⟩).1==0)=true then cV else((aV d t ⟨n,a,c⟩).1,⟨n,a,c⟩),i,(aV d t ⟨n,a,c⟩).2),H):=by grind [kt]);rw[I];refine(wW q 186 u i C d b _ t n a c w h ad af T hi).mono ?_;rintro e f ⟨rfl,G,D',T'⟩;exact⟨rfl,G,D',T'.Zw g,λ_=>T'.1.get m (by grind)⟩}
 ·(have I:kt (dz l x) l y H t ⟨n,a,c⟩ i d=qt (dz l x) l y H ⟨n,a,c⟩ i d:=by grind [kt]);rw[I];have⟨W,B⟩:∃W,W=((w.alloc (aK #[J t,Y 0,bool false,J n,Y a,Y c] 223)).alloc (aK #[Y 0,dx,Y 0,Y 0] 85)):=⟨_,rfl⟩;(have K:aJ w W:=by rw[B];exact((ab.refl [] w).alloc _).alloc _);(have am:=h.lt;have ah:=ak m;have hI:W.heap[w.heap.size]?=some (aK #[J t,Y 0,bool false,J n,Y a,Y c] 223):=by rw[B];exact(bH.alloc _).gt (Vx ..));(have hF:W.heap[w.heap.size+1]?=some (aK bM 85):=by rw[B];have:=Vx (w.alloc (aK #[J t,Y 0,bool false,J n,Y a,Y c] 223)) (aK #[Y 0,dx,Y 0,Y 0] 85);simpa [bM] using this);(have⟨i0,_,_,i3,i4,i5⟩:=zfr hI;have IC:=Hy q u zo g x y H l z8 i C d b n s a c W (h.Zr K) hn U hs hz (m.ZE K (by simp)) (ht.ZE K (by simp)) E ag V RF;have v:Z _:=IC;have z:Z (∀k,w.heap.size<=k->¬dw b k):=λk hk hm=>by have:=h.inlt hm;omega);have HW:Z _:=B.symm;clear B IC RF I h;generalize qt (dz l x) l y H ⟨n,a,c⟩ i d=R at *;have⟨⟨⟨r,pf,pl,pc⟩,ai,d'⟩,z'⟩:=R;simp only[iT]at v ⊢;go_enter func136,ntmps136;go_upto_region 1 with fail
  rw[HW.o];go_wp2_with fail;refine VC v ?_;rintro e w2 ⟨rfl,H2,D2,M,D⟩;have A:=M.1.get hF (by rintro (e | e | e);omega;omega;exact z _ (by omega) e);have⟨j0,j1,j2,j3⟩:=cT A;have an:=aE A;have p:Z _:=(λN O P S=>ki D2 (M.first K) (F:=w.heap.size+1) (by omega) (by omega) (M.fresh _ (ak hF) (z _ (by omega))) N O P S);have L:Z _:=(λN O P S hh=>(D hh).ZE (jx (r:=w.heap.size+1) N O P S) (by grind));clear D i0 i3 i4 i5;go_wp2;exact VQ (v:=agg #[Y r,J pf,Y pl,Y pc]) (by simp[results,results136,go_sem,j0,j1,j2,j3]) rfl
   ⟨rfl,H2,(p ..).1,(p ..).2,L _ _ _ _⟩
set_option maxRecDepth 512
theorem Iv :
  br 132 #[agg #[J zc,J z]] I λe a=>∃s,e=cA (bB s)/\I.heap.size<=s/\cB a s zc z 0/\aJ I a:=by go_enter func132,ntmps132;go_wp2;go_ret;refine⟨I.heap.size+1,rfl,by omega,?_,((ab.refl _ _).alloc _).alloc _⟩;have:=Vx (I.alloc (aK #[J zc,J z] 41)) (aK #[J zc,J z,Y 0,Y 1,Y 1] 242);simpa [cB,mN,ba,cm] using this
theorem aj.beyond(a:aj T f k o t)(b:ab y5 o A)(e:∀x,x∈y5->f.heap.size<=x):aj T f k A t :=
 ⟨⟨b.os.trans a.1.os,b.tape.trans a.1.tape,b.output.trans a.1.output,VU a.1.size b.size,λi c d=>by
  rw[<-a.1.block i c d];exact b.block i (VD c a.1.size) (by grind)⟩,a.2⟩
theorem aj.word(a:aj T f k o t)(M:gJ T D o t A yz)(i:f.heap.size<=D):aj T f k A yz:=by refine⟨⟨M.1.os.trans a.1.os,M.1.tape.trans a.1.tape,M.1.output.trans a.1.output,VU a.1.size M.1.size,?_⟩,?_⟩;{intro b c g;rw[<-a.1.block b c g];refine M.1.block b (VD c a.1.size) ?_;rintro (e | e | d);{omega};{omega};{rcases a.2 b d with h | h;{grind};{omega}}};{intro b c;rcases M.2 b c with h | h;{exact a.2 b h};{exact VO (VU a.1.size h)}}
theorem PK:(fd H i).set (1+s) (bool true)=fd H (i.set s true):=by unfold fd;rw[Nat.add_comm 1 s,YU,List.map_set]
theorem IX(h:i.length=4)(a:s<4):(fd H i)[1+s]?=some (bool (i.getD s true)):=by grind [fd]
set_option maxRecDepth 100000
theorem AY(b:i.length=4)(d:Db)(a:Nat->Hd)(w:World)(j:H<4)(h:bt w g 186 (fd x i) [] d a)(c:i.getD H true=true):jM g x l y H i d a w:=by
 unfold jM dz;rw[VK c];have f:=h.lt;have e:=h.preCell (1+H) (by grind [jy]);rw[IX x i H b j,c]at e;go_enter func112,ntmps112;go_wp2;exact VQ (v:=agg #[Y 0,dx,Y 0,Y 0]) (by simp[results,results112,go_sem]) rfl
  ⟨rfl,a,h.Zr (bH.alloc _),(aj.refl _ _ _).Zr (bH.alloc _)⟩
theorem Co(cg:∀j,j<l.length->(aC l j).size<=1024)(co:x≠g)(IH:∀aq,aq<H->∀(j:Nat) (K:List Bool) (d:Db) (E:Nat->Hd) (w:World) (m:Nat),j<l.length->K.length=4->nz d m->m+fR l K<=9000000->fR l K<=aq->bt w g 186 (fd x K) [] d E->cU w x y l z6->¬dw E x->jM g x l aq j K d E w)(j:Nat)(K:List Bool)(d:Db)(E:Nat->Hd)(w:World)(m:Nat)(hj:j<l.length)(bk:K.length=4)(hB:nz d m)(hm:m+fR l K<=9000000)(hf:fR l K<=H)(h:bt w g 186 (fd x K) [] d E)(ht:cU w x y l z6)(cr:¬dw E x)(hb:K.getD j true=false):jM g x l H j K d E w:=by
 unfold jM dz;rw[VL (by grind)];have ct:=ht.2;have hs:=cg j hj;have bm:=Ao l K j bk hb;have⟨n,hn⟩:∃n,cK l j=n:=⟨_,rfl⟩;have⟨s,ag⟩:∃s,aC l j=s:=⟨_,rfl⟩;rw[ag]at hs bm;have cF:=h.lt;have b8:=h.free;have c6:=ht.lt;have c1:=h.preCell (1+j) (by grind [jy]);rw[IX x K j bk (by omega),hb]at c1;have c0:=h.preCell 0 (by simp[fd]);have b3:bY w g 0 (bB x):=c0;clear c0;have P1:=h.pre (1+j) (by grind [jy]) (bool true);rw[PK]at P1;have⟨L,a5⟩:∃L,K.set j true=L:=⟨_,rfl⟩;(have ca:L.length=4:=by grind);rw[a5]at P1 bm ⊢;clear a5;have⟨W,hW⟩:∃W,W=(w.setCell (X g (1+j)) (bool true)).alloc (aK #[Y 0,dx,Y 0,Y 0] 85):=⟨_,rfl⟩;(have D1:bt W g 186 (fd x L) [] d E:=by rw[hW];exact P1.1.Zr (bH.alloc _));(have T1:aj g w E W E:=by rw[hW];exact P1.2.Zr (bH.alloc _));(have F1:W.heap[w.heap.size]?=some (aK bM 85):=by rw[hW];have:=Vx (w.setCell (X g (1+j)) (bool true)) (aK bM 85);simpa [World.setCell,bM] using this);(have bc:cU W x y l z6:=⟨T1.1.get ht.1 (by grind),ht.2⟩;have av:Z (∀k,w.heap.size<=k->¬dw E k):=λk hk hm=>by have:=h.inlt hm;omega);(have⟨HW,bx⟩:=nM hW.symm IH;clear P1 hW IH;go_enter func112,ntmps112;go_wp2_with fail;rw[HW.o];clear HW c1 b3 b8 ht h;refine(Sf x y j l z6 _ bc hj).mono ?_;rintro e w2 ⟨rfl,af⟩;rw[hn,ag];go_wp2_with fail;refine(Iv n s _).mono ?_;rintro e w3 ⟨sp,rfl,c4,h3,ai⟩;go_wp2_with fail;refine(vA sp 0 n s _ hs (by omega) h3).mono ?_;rintro e w4 ⟨rfl,h4,am⟩;have cz:=ak F1;have c7:=af.size;have cv:w.heap.size<sp:=by omega);(have bv:sp≠g:=by omega);(have bw:x≠sp:=by omega);have T4:aj g w E w4 E:=(((T1.Zr af).Zr ai).beyond am (by grind));have F4:=am.get (ai.get (af.gt F1) (by simp)) (by grind);have D4:bt w4 g 186 (fd x L) [] d E:=((D1.Zr af).Zr ai).ZE am (by grind) (by intro k hk;simp;rintro rfl;exact av _ (by omega) hk);have be:cU w4 x y l z6:=((bc.ZE af (by simp)).ZE ai (by simp)).ZE am (by grind);have cu:=ak h4;clear D1 T1 F1 bc af ai am h3;simp[f9];go_wp2;go_loopg [7] s.size (λgk _ wr=>∃(k aq m1:Nat) (b:List Bool) (v:Db) (G:Nat->Hd),k<=s.size/\gk=s.size-k/\b.length=4/\nz v m1/\m1+(s.size-k)+fR l b<=9000000/\(s.size-k)+fR l b+1<=aq/\aq<=H /\ Z (cE l H j 0 L d=cE l aq j k b v)/\cB wr sp n s (aA s k).2/\jW wr w4.heap.size n s (aA s k).1 /\ wr.heap[w.heap.size]?=some (aK bM 85)/\bt wr g 186 (fd x b) [] v G/\cU wr x y l z6/\aj g w E wr G/\(¬dw G sp/\¬dw G w4.heap.size/\¬dw G w.heap.size/\¬dw G x));{exact⟨0,H,m,L,d,E,by omega,by omega,ca,hB,by omega,by omega,Vw _,rfl,h4.ZE (bH.alloc _) (by simp),Vx ..,(bH.alloc _).gt F4,D4.Zr (bH.alloc _),be.ZE (bH.alloc _) (by simp),T4.Zr (bH.alloc _),av _ (by omega),av _ (by omega),av _ (by omega),cr⟩};have⟨k,aq,m1,b,v,G,hk,hg,ao,az,c3,cW,c2,hR,h5,hI,hF,D,TB,T,bo,bp,M,bb⟩:=hrel;obtain⟨O,rfl⟩:∃O,aq=O+1:=⟨aq-1,by omega⟩;(clear D4 T4 F4 be h4;have bq:=fG s k hk;have cl:=m8 s k hs;have SK:=Ju l O (SD l O).2 j k b v m1 (ag ▸ hk) ao az;have L1:=Nl l O j k b v;have L2:=yI l O j k b v;have L3:=EI l O j k b v;have L4:=zT l O j k b v;have ST:iC l O j k b v=kt (dz l O) l j (aA s k).2 (aA s k).1.text (il n s (aA s k).1.pos) b v:=by unfold iC;rw[hn,ag]);rw[ag]at SK L1 L2 L3 L4;rw[hn]at L4;rw[ST]at SK L1 L2;have L6:aN (aA s k).1=false->(aA s k).1.ZK=false->((aA s k).1.ZO==0)=false:=qV;have⟨V,R,S,U,I,ah⟩:=hg6 SK L1 L2 L3 L4 L6;clear SK L1 L2 L3 L4 L6 ST;generalize hrr:aA s k=r at *;have⟨⟨t,u,fi,p⟩,z⟩:=r;clear hrr;simp only at h5 hI bq cl V R S U I ah;obtain⟨q0,q1,q2,q3,q4,q5⟩:=hI.cells;have c5:=ak h5;cases hw:(u==0 && !fi)
 ·cases fi
  ·have P:Z _:=hR.o.trans (I hw (by simp));have hu:(u==0)=false:=(by simpa using hw);clear R S U I ah V;go_wp2_with fail;refine(dL t n _ (ba s p) (cm s p) _ _).mono ?_;rintro e w5 ⟨rfl,a⟩;have i:=hI.ZE a (by simp);have c:=a.gt hF;have D5:=D.Zr a;have T5:=T.Zr a;clear q0 q1 q2 q3 q4 q5 hI h5 hF D T a TB;obtain⟨q0,q1,q2,q3,q4,q5⟩:=i.cells;go_wp2_with fail;refine(nK t n u (ba s p) (cm s p) _ _).mono ?_;rintro e w6 ⟨rfl,a8⟩;simp only[Bool.false_eq_true,if_false];have q:=a8.gt c;have D6:=D5.Zr a8;have T6:=T5.Zr a8;have f:Z _:=(λa0 a1 a2 a3=>oF D6 T6 (F:=w.heap.size) (Vw _) (by omega) M a0 a1 a2 a3);have⟨z0,z1,z2,z3⟩:=cT q;have cw:=aE q;go_wp2;exact VQ (v:=agg #[Y u,J n,Y (ba s p),Y (cm s p)]) (by simp[results,results112,go_sem,z0,z1,z2,z3]) rfl
    ⟨by rw[P.o];rfl,G,by rw[P.o];exact(f _ _ _ _).1,(f ..).2⟩
  ·cases ho:eH v
   ·have P:Z _:=hR.o.trans (U hw rfl ho);clear R S U I ah V;go_wp2_with fail;refine(dL t n _ (ba s p) (cm s p) _ _).mono ?_;rintro e w5 ⟨rfl,a⟩;have i:=hI.ZE a (by simp);have c:=a.gt hF;have D5:=D.Zr a;have T5:=T.Zr a;clear q0 q1 q2 q3 q4 q5 hI h5 hF D T a TB;obtain⟨q0,q1,q2,q3,q4,q5⟩:=i.cells;go_wp2_with fail;refine(vE g 186 5 (fd x b) [] v G _ D5 (jy x b ao)).mono ?_;rintro e w6 ⟨rfl,bd⟩;subst bd;rw[ho];have f:Z _:=(λa0 a1 a2 a3=>oF D5 T5 (F:=w.heap.size) (Vw _) (by omega) M a0 a1 a2 a3);obtain⟨z0,z1,z2,z3⟩:=cT c;have cw:=aE c;go_wp2;exact VQ (v:=agg #[Y 0,dx,Y 0,Y 0]) (by simp[results,results112,go_sem,z0,z1,z2,z3]) rfl
     ⟨by rw[P.o];rfl,G,by rw[P.o];exact(f _ _ _ _).1,(f _ _ _ _).2⟩
   ·have P:Z _:=hR.o.trans (I hw (by simp[ho]));clear R S U I ah V;go_wp2_with fail;refine(dL t n _ (ba s p) (cm s p) _ _).mono ?_;rintro e w5 ⟨rfl,a⟩;have i:=hI.ZE a (by simp);have c:=a.gt hF;have D5:=D.Zr a;have T5:=T.Zr a;clear q0 q1 q2 q3 q4 q5 hI h5 hF D T a TB;obtain⟨q0,q1,q2,q3,q4,q5⟩:=i.cells;go_wp2_with fail;refine(vE g 186 5 (fd x b) [] v G _ D5 (jy x b ao)).mono ?_;rintro e w6 ⟨rfl,bd⟩;subst bd;rw[ho];go_wp2_with fail;refine(nK t n u (ba s p) (cm s p) _ _).mono ?_;rintro e w7 ⟨rfl,a9⟩;simp only[if_true];have bh:=a9.gt c;have D7:=D5.Zr a9;have T7:=T5.Zr a9;have f:Z _:=(λa0 a1 a2 a3=>oF D7 T7 (F:=w.heap.size) (Vw _) (by omega) M a0 a1 a2 a3);have⟨z0,z1,z2,z3⟩:=cT bh;have cw:=aE bh;go_wp2;exact VQ (v:=agg #[Y 7,J n,Y (ba s p),Y (cm s p)]) (by simp[results,results112,go_sem,z0,z1,z2,z3]) rfl
     ⟨by rw[P.o];rfl,G,by rw[P.o];exact(f ..).1,(f ..).2⟩
 ·(have hu:u=0:=by simp at hw;omega);(have b7:fi=false:=by simp at hw;exact hw.2)
  subst hu b7;have bs:=(az.small (N:=100000000) (by omega)).2;have RW:=λ(w':World) (h':bt w' g 186 (fd x b) [] v G) (cf:cB w' sp n s z) (ch:cU w' x y l z6)=>Fq g x y sp O j z l z6 b ao v G n s t (ba s p) (cm s p) w' h' hn ag hs bq.2.1 cf ch bv bw bo (az.small (N:=10000000) (by omega)).1 (by omega) bs
   (λjj ww b9 b6 cj=>bx O (by omega) jj b v G ww m1 b9 ao az (by omega) (by omega) b6 cj bb)
  have a6:Z _:=RW;have C:Z _:=V hw;have A:Z _:=R hw;have B:Z _:=S hw;clear RW R S U I ah V;simp only[il]at C A B;generalize kt (dz l O) l j z t ⟨n,ba s p,cm s p⟩ b v=cs at *;obtain⟨⟨⟨r,pf,pl,pc⟩,b2,d2⟩,z2⟩:=cs;simp only[iT]at C A B a6;have ap:=C.2;obtain⟨bl,cc,m2,bf,cb⟩:=C.1;simp only at bl cc bf cb ap;clear C;cases hr:(r==0)
  ·have cd:(r != 0)=true:=(by simp[bne,hr]);have P:Z _:=hR.o.trans (B hr);clear A B;go_wp2_with fail;refine(dL t n _ (ba s p) (cm s p) _ _).mono ?_;rintro e w5 ⟨rfl,a⟩;have i:=hI.ZE a (by simp);have ax:=h5.ZE a (by simp);have c:=a.gt hF;have D5:=D.Zr a;have T5:=T.Zr a;have ad:=TB.ZE a (by simp);clear q0 q1 q2 q3 q4 q5 hI h5 hF D T TB a;obtain⟨q0,q1,q2,q3,q4,q5⟩:=i.cells;go_wp2_with fail;refine(a6 _ D5 ax ad).mono ?_;rintro e w6 ⟨rfl,H2,D6,M6,-⟩;have q:=M6.1.get c (by rintro (e | e | e);omega;omega;exact M e);have m3:=M6.fresh w.heap.size (ak c) M;have T7:=T5.word M6 (by omega);have a4:=ak q;have y6:=aE q;obtain⟨z0,z1,z2,z3⟩:=cT q;have f:Z _:=(λa0 a1 a2 a3=>oF D6 T7 (F:=w.heap.size) (Vw _) (by omega) m3 a0 a1 a2 a3);clear q0 q1 q2 q3 q4 q5;go_wp2;exact VQ (v:=agg #[Y r,J pf,Y pl,Y pc]) (by simp[results,results112,go_sem,a4,z0,z1,z2,z3]) rfl
    ⟨by rw[P.o];rfl,H2,by rw[P.o];exact(f _ _ _ _).1.Zr (bH.alloc _),((f _ _ _ _).2.Zr (bH.alloc _))⟩
  {have cd:(r != 0)=false:=(by simp[bne,hr]);have P:Z _:=hR.o.trans (A hr);clear A B;go_wp2_with fail;refine(dL t n _ (ba s p) (cm s p) _ _).mono ?_;rintro e w5 ⟨rfl,a⟩;have i:=hI.ZE a (by simp);have ax:=h5.ZE a (by simp);have c:=a.gt hF;have D5:=D.Zr a;have T5:=T.Zr a;have ad:=TB.ZE a (by simp);clear q0 q1 q2 q3 q4 q5 hI h5 hF D T TB a;obtain⟨q0,q1,q2,q3,q4,q5⟩:=i.cells;go_wp2_with fail;refine(a6 _ D5 ax ad).mono ?_;rintro e w6 ⟨rfl,H2,D6,M6,ce⟩;have h6:=ce hr;have q:=M6.1.get c (by rintro (e | e | e);omega;omega;exact M e);have b5:jW w6 w4.heap.size n s ⟨t,0,false,p⟩:=M6.1.get i (by rintro (e | e | e);omega;omega;exact bp e);have b0:cU w6 x y l z6:=⟨M6.1.get ad.1 (by rintro (e | e | e);exact co e;exact bw e;exact bb e),ad.2⟩;have e1:=M6.fresh sp (ak ax) bo;have e2:=M6.fresh w4.heap.size (ak i) bp;have e3:=M6.fresh w.heap.size (ak c) M;have e4:=M6.fresh x ad.lt bb;have a4:=ak q;have cx:=ak h6;go_wp2_with fail;refine(vA sp z2 n s _ hs ap.2 (by exact h6.ZE (bH.alloc _) (by simp))).mono ?_;rintro e w8 ⟨rfl,h8,an⟩;have a7:=(b5.ZE (bH.alloc _) (by simp)).ZE an (by simp;omega);have b4:=an.get ((bH.alloc _).gt q) (by simp;omega);have D8:=(D6.Zr (bH.alloc _)).ZE an (by simp;omega) (by intro k hk;simp;rintro rfl;exact e1 hk);have b1:=(b0.ZE (bH.alloc _) (by simp)).ZE an (by simp;omega);have T8:=((T5.word M6 (by omega)).Zr (bH.alloc _)).beyond an (by simp;omega);have yy:=aE a7;clear q0 q1 q2 q3 q4 q5;have⟨q0,q1,q2,q3,q4,q5⟩:=a7.cells;simp[f9];go_wp2;go_roundg (s.size-z2);{exact⟨z2,O,m2,b2,d2,H2,ap.2,rfl,bl,bf,by omega,by omega,by omega,P,im h8 (by omega) ..,qW a7 _,xc b4 (by omega) .., D8.ZE (Mb ..) (by grind) (by grind),b1.ZE (Mb ..) (by grind),T8.beyond (Mb ..) (by grind),e1,e2,e3,e4⟩};omega}
theorem Fp(e:∀j,j<l.length->(aC l j).size<=1024)(g:y≠x)(f:Nat):∀(j:Nat) (a:List Bool) (d:Db) (b:Nat->Hd) (w:World) (m:Nat),j<l.length->a.length=4->nz d m->m+fR l a<=9000000->fR l a<=f->bt w x 186 (fd y a) [] d b->cU w y H l z6->¬dw b y->jM x y l f j a d b w:=by induction f using Nat.strongRecOn with|_ f IH=>{intro j a d b w m q c o r p h n i;cases k:a.getD j true with|true=>exact AY x y f j l a c d b w (by have:=n.2;omega) h k|false=>exact Co x y H f l z6 e g IH j a d b w m q c o r p h n i k}
structure jN(w:World)(l:List St)(H:Nat->Hd):Prop where
  ZP:aO w (H 6) (jA l H)
  syms:∀i s,l[i]?=some s->aO w (H (10+2*i)) (aw s.Zm)
  prfs:∀i s,l[i]?=some s->aO w (H (11+2*i)) (jB s.Zx)
theorem bt.record(h:bt f T D z4 zK m k):jN f m.ZD k:=by refine⟨h.ZP 6,λi s a=>?_,λi s a=>?_⟩;{have:=h.ZP (10+2*i);(rw[show 10+2*i=2*i+10 by omega]at this ⊢;have e:bG m k (2*i+10)=aw s.Zm:=by simp[bG,inner,symsAt,a]);rw[e]at this;exact this};{have:=h.ZP (11+2*i);(rw[show 11+2*i=(2*i+1)+10 by omega]at this ⊢;have q:(2*i+1) % 2=1:=by omega);have b:(2*i+1) / 2=i:=(by omega);have e:bG m k ((2*i+1)+10)=jB s.Zx:=(by grind [bG,inner,xO]);rw[e]at this;exact this}
theorem jN.keptP{P:Nat->Prop}(h:jN f p k)(d:eR P f o)(c:∀x,dw k x->¬P x):jN o p k :=
  ⟨h.ZP.Zw (λx a=>d.block x (h.ZP.lt a) (c x ⟨6,a⟩)),λi s b=>(h.syms i s b).Zw (λx a=>d.block x ((h.syms i s b).lt a) (c x ⟨_,a⟩)),λi s b=>(h.prfs i s b).Zw (λx a=>d.block x ((h.prfs i s b).lt a) (c x ⟨_,a⟩))⟩
theorem jN.ZE{S:Vu}(h:jN f p k)(c:ab S f o)(a:∀x,dw k x->x∉S):jN o p k :=
  h.keptP (c.toP (P:=(·∈S)) (λ_ b _=>b)) a
theorem jN.Zr(h:jN f p k)(a:aJ f o):jN o p k:=h.ZE a (by simp)
def gN:Nat->Hd:=λ_=>⟨none,0⟩
theorem wR:¬dw gN s:=by rintro ⟨i,h⟩;simp[gN,Hd.ZF]at h
def JT:List Bool:=[false,false,false,false]
theorem bt.begin(h:f.heap[T]?=some (aK (z4++(df bN gN++[])).toArray D)):bt f T D z4 [] bN gN:=by
  refine⟨h,?_,λi j _=>VS rfl,by grind [gN,Hd.ZF]⟩;intro i
  match i with
  | 0=>exact VN ..
  | 1=>exact VN ..
  | 2=>exact VN ..
  | 3=>exact VN ..
  | 4=>exact VN ..
  | 5=>exact VN ..
  | 6=>exact VN ..
  | 7=>exact VN ..
  | 8=>exact VN ..
  | 9=>exact VN ..
  | n+10 =>
    have e:bG bN gN (n+10)=if n % 2=0 then aw [] else jB []:=(by rfl);rw[e];split;{exact VN ..};{exact VN ..}
set_option maxRecDepth 512
theorem LT(d:Db)(a:Nat->Hd)(w:World)(h:bt w x y z8 z6 d a)(c:z8.length=H) :
    br 113 #[pointer (some (X x H))] w (mu (agg #[Q (a 6).ao d.ZD.length (a 6).cap,Q (a 7).ao d.rbl.length (a 7).cap]) w):=by have⟨i,j,k,l,m,n,o,p,q,r,e,f,g⟩:=h.cells H c;have b:=h.lt;go_enter func113,ntmps113;go_wp2;exact VQ (v:=agg #[Q (a 6).ao d.ZD.length (a 6).cap,Q (a 7).ao d.rbl.length (a 7).cap]) (by simp[results,results113,go_sem]) rfl ⟨rfl,(ab.refl ..).alloc _⟩
theorem yQ(b:∀j,j<l.length->(aC l j).size<=1024)(a:List Bool):fR l a<=4104:=by (have h:∀j,unb l a j<=1026:=by intro j;unfold unb;split;{omega};{rcases Yd j l.length with h | h;{grind};{(have:(aC l j).size=0:=by unfold aC;rw[Vy,Xv h];rfl);omega}});grind [fR]
theorem EY(h:ab y5 f o)(b:T∈y5∨f.heap.size<=T)(a:D∈y5∨f.heap.size<=D)(c d e g i j:Value) :
    ab y5 f ((((((o.setCell (aD T) c).setCell (X T 1) d).setCell (aD D) e).setCell (X D 1) g).setCell (X D 2) i).setCell (X D 3) j) :=
  (((((h.setCell b _).setCell b _).setCell a _).setCell a _).setCell a _).setCell a _
def eq(fs:Fs)(root:Nat):Red:=dz fs 5000 root JT bN
set_option maxRecDepth 100000
theorem Uz(ht:cU I x y l z6)(N:H<l.length)(P:∀j,j<l.length->(aC l j).size<=1024) :
    br 87 #[bB x,Y H] I λe w' =>
      (if((eq l H).1.1==0)=true then ∃i,e=cA (tuple #[agg #[Q (i 6).ao (eq l H).2.2.ZD.length (i 6).cap,Q (i 7).ao (eq l H).2.2.rbl.length (i 7).cap],iT cV])/\jN w' (eq l H).2.2.ZD i/\(∀k,dw i k->I.heap.size<=k)
       else e=cA (tuple #[agg #[Q none 0 0,Q none 0 0],iT (eq l H).1]))/\aJ I w':=by
  have ad:=ht.lt;obtain⟨W,m⟩:∃W,W=((I.alloc (aK #[Q none 0 0,Q none 0 0] 48)).alloc (aK #[Y 0,dx,Y 0,Y 0] 85)).alloc (.cells #[bB x,bool false,bool false,bool false,bool false, Q none 0 0,Q none 0 0,Q none 0 0,Q none 0 0,Q none 0 0,Q none 0 0,Q none 0 0,Q none 0 0,Y 0,dx,Q none 0 0,bool false,Q none 0 0] 186):=⟨_,rfl⟩;(have w:aJ I W:=by rw[m];exact((bH.alloc _).alloc _).alloc _);(have hA:W.heap[I.heap.size]?=some (aK #[Q none 0 0,Q none 0 0] 48):=by rw[m];exact((bH.alloc _).alloc _).gt (Vx ..));(have hF:W.heap[I.heap.size+1]?=some (aK bM 85):=by (rw[m];have e:(I.alloc (aK #[Q none 0 0,Q none 0 0] 48)).heap.size=I.heap.size+1:=by simp);rw[<-e];exact(bH.alloc _).gt (Vx ..));(have V:bt W (I.heap.size+2) 186 (fd x JT) [] bN gN:=by (refine bt.begin ?_;rw[m];have e:((I.alloc (aK #[Q none 0 0,Q none 0 0] 48)).alloc (aK #[Y 0,dx,Y 0,Y 0] 85)).heap.size=I.heap.size+2:=by simp);rw[<-e];exact Vx ..);have HW:Z _:=m.symm;have L:=Fp (I.heap.size+2) x y l z6 P (by omega) 5000 H JT bN gN W 0 N rfl nz.empty (by grind [yQ,JT]) (by grind [yQ,JT]) V (ht.ZE w (by simp)) (wR _);unfold jM at L;have p:Z _:=L;clear m L;have n:Z ((dz l 5000 H JT bN).2.1.length=4):=((SD l 5000).2 H JT bN 0 rfl nz.empty).1;have T:Z (eq l H=dz l 5000 H JT bN):=rfl;rw[T.o];clear T;generalize dz l 5000 H JT bN=R at *;have⟨⟨r,pf,pl,pc⟩,q,M⟩:=R;simp only[iT]at p n ⊢;go_enter func87,ntmps87;go_upto_region 2 with fail;(rw[HW.o];go_wp2_with fail;refine VC p ?_;rintro e w2 ⟨rfl,d,S,f⟩;have a:=f.1.get hA (by grind [wR]);have b:=f.1.get hF (by grind [wR]);have K:Z (∀k,dw d k->I.heap.size<=k):=λk g=>by rcases f.2 k g with h | h;{grind [wR]};grind);(have G:Z (∀k,dw d k->k≠I.heap.size/\k≠I.heap.size+1/\k≠I.heap.size+2):=λk g=>by have af:=V.lt;rcases f.2 k g with h | h;{grind [wR]};{omega});have U:Z (aJ I w2):=⟨f.1.os.trans w.os,f.1.tape.trans w.tape,f.1.output.trans w.output,by grind,λk g _=>(f.1.block k (by grind) (by grind [wR])).trans (w.block k g (by simp))⟩;have⟨A,B⟩:=sL a;have⟨C,D,E,F⟩:=cT b;have ya:=aE a;have yf:=aE b;have s:=ak a;have u:=ak b;cases hr:(r==0);{(have O:(r != 0)=true:=by grind);go_wp2_with fail;go_region;(all_goals go_wp2);all_goals exact VQ (v:=tuple #[agg #[Q none 0 0,Q none 0 0],agg #[Y r,J pf,Y pl,Y pc]]) (by simp[results,results87,go_sem,A,B,C,D,E,F,s,u]) rfl ⟨rfl,((EY U (by simp) (by simp) ..).alloc _).drew⟩}
  · (have O:(r != 0)=false:=by grind)
    go_wp2_with fail;refine(LT (I.heap.size+2) 186 5 (fd x q) [] M d _ (by exact S.Zr (bH.alloc _)) (jy x q n)).mono ?_;rintro e w4 ⟨rfl,z⟩;have c:aJ w2 w4:=(bH.alloc _).trans z;have t:=c.gt a;have v:=c.gt b;have K4:Z _:=U.o.trans c;have S4:Z _:=S.record.Zr c;clear A B C D E F ya yf z;have⟨A,B⟩:=sL t;have⟨C,D,E,F⟩:=cT v;have ya:=aE t;have yf:=aE v;go_wp2;exact VQ (v:=tuple #[agg #[Q (d 6).ao M.ZD.length (d 6).cap,Q (d 7).ao M.rbl.length (d 7).cap],agg #[Y 0,dx,Y 0,Y 0]]) (by simp[results,results87,go_sem,A,B,C,D,E,F]) rfl
      ⟨⟨d,rfl,S4.o.ZE (EY (ab.refl [I.heap.size,I.heap.size+1] w4) (VS (by simp)) (VS (by simp)) ..) (λk g=>by have:=G k g;grind),K⟩,
        EY K4 (by simp) (by simp) ..⟩
structure dI(w:World)(b o:Nat)(l:List St)(H:Nat->Hd):Prop where
 cell:∃arr t,w.heap[b]?=some (aK arr t)/\arr[o]?=some (Q (H 6).ao l.length (H 6).cap)
 ZD:jN w l H
theorem dI.at(h:dI f T D p k):f.cell? (X T D)=some (Q (k 6).ao p.length (k 6).cap):=by obtain⟨a,t,b,c⟩:=h.cell;grind [ay]
theorem dI.lt(h:dI f T D p k):T<f.heap.size:=by obtain⟨a,t,b,c⟩:=h.cell;grind
theorem dI.ZE{S:Vu}(h:dI f T D p k)(b:ab S f o)(g:T∉S)(e:∀x,dw k x->x∉S):dI o T D p k:=by obtain⟨a,t,c,d⟩:=h.cell;exact⟨⟨a,t,b.get c g,d⟩,h.ZD.ZE b e⟩
theorem dI.Zr(h:dI f T D p k)(a:aJ f o):dI o T D p k:=h.ZE a (by simp) (by simp)
theorem jN.stmt(h:jN f p k)(n:Nat)(m:n<p.length) :
  ∃g,(k 6).ao=some (aD g)/\p.length<=(k 6).cap/\(k 6).cap<=9223372036854775807/\bY f g (n*8) (Y p[n].ZG)/\bY f g (n*8+1) (J p[n].ZH)/\bY f g (n*8+2) (Q (k (10+2*n)).ao p[n].Zm.length (k (10+2*n)).cap) /\
  bY f g (n*8+3) (Q (k (11+2*n)).ao p[n].Zx.length (k (11+2*n)).cap)/\bY f g (n*8+4) (J p[n].ZK.ZL)/\bY f g (n*8+5) (Y p[n].ZK.ZM) /\
  bY f g (n*8+6) (Y p[n].ZK.ZN)/\bY f g (n*8+7) (Y p[n].til):=by rcases h.ZP.ZC with ⟨_,i,_⟩ | ⟨g,d,a,q,e,b,-⟩;{have:p.length=0:=i;omega};{have c:=λj (l:j<8) v (o:(Qu p[n] (k (10+2*n)) (k (11+2*n)))[j]?=some v)=>h.ZP.cell a (n*8+j) v ((NY p k n m j l).trans o);exact⟨g,a,e,by unfold maxLen at b;exact b,c 0 (by omega) _ rfl,c 1 (by omega) _ rfl,c 2 (by omega) _ rfl,c 3 (by omega) _ rfl,c 4 (by omega) _ rfl,c 5 (by omega) _ rfl,c 6 (by omega) _ rfl,c 7 (by omega) _ rfl⟩}
set_option maxRecDepth 512
theorem eK(h:dI I y H M z7) :
  br 79 #[pointer (some (X y H))] I (gG (Y M.length) I):=by have c:=h.at;go_enter func79,ntmps79;go_wp2;go_ret;exact⟨rfl,rfl⟩
def cX(s:St)(a b:Hd):Value :=
 agg #[Y s.ZG,J s.ZH,Q a.ao s.Zm.length a.cap,Q b.ao s.Zx.length b.cap,J s.ZK.ZL,Y s.ZK.ZM,Y s.ZK.ZN,Y s.til]
theorem aY(h:dI I x y M z7)(e:H<M.length) :
  br 51 #[pointer (some (X x y)),Y H] I (mu (cX M[H] (z7 (10+2*H)) (z7 (11+2*H))) I):=by
 have c:=h.at;have b:=h.lt;obtain⟨g,a,p,q,f,i,j,k,l,m,n,o⟩:=h.ZD.stmt H e;have d:=h.ZD.ZP.lt (k:=g) (by grind [Hd.ZF]);rw[a]at c;unfold cX;go_enter func51,ntmps51;go_wp2;exact VQ (v:=agg #[Y M[H].ZG,J M[H].ZH,Q (z7 (10+2*H)).ao M[H].Zm.length (z7 (10+2*H)).cap,Q (z7 (11+2*H)).ao M[H].Zx.length (z7 (11+2*H)).cap,J M[H].ZK.ZL,Y M[H].ZK.ZM,Y M[H].ZK.ZN,Y M[H].til])
  (by simp[results,results51,go_sem]) rfl ⟨rfl,(ab.refl _ _).alloc _⟩
def cL(l:List St)(n a:Nat):Bool:=match l[n]? with | some s=>decide (n<a)&&(s.til==0||decide (a<s.til)) | none=>false
theorem zbD(h:y3<M.length):cL M y3 s=(decide (y3<s)&&(M[y3].til==0||decide (s<M[y3].til))):=by grind [cL]
theorem ig(h:dI I g x M z7)(f:y<M.length) :
  br 95 #[pointer (some (X g x)),Y y,Y H] I (gG (bool (cL M y H)) I):=by have c:=h.at;obtain⟨u,i,r,s,j,k,l,m,n,o,p,q⟩:=h.ZD.stmt y f;rw[i]at c;have d:Z _:=zbD M y H f;generalize M[y].til=t at *;by_cases e:y<H;{cases v:((t:Int)==0);{have a:(t==0)=false:=(by grind);have b:Z (cL M y H=decide (H<t)):=eE (by rw[d.o,a];simp[e]);go_enter func95,ntmps95;go_wp2;go_ret;exact⟨aT (by rw[b.o]),rfl⟩};{have a:(t==0)=true:=(by grind);have b:Z (cL M y H=true):=eE (by rw[d.o,a];simp[e]);go_enter func95,ntmps95;go_wp2;go_ret;exact⟨aT (by rw[b.o]),rfl⟩}};{(have b:Z (cL M y H=false):=by show _=_;rw[d.o];simp[e]);go_enter func95,ntmps95;go_wp2;go_ret;exact⟨aT (by rw[b.o]),rfl⟩}
def kI(l:List St)(lab:Vq)(a n:Nat):Bool:=match l[n]? with | some s=>(s.ZH.toList==lab.toList) && !(s.ZG==1)&&cL l n a | none=>false
def eA(l:List St)(lab:Vq)(a:Nat):Option Nat:=(List.range l.length).find? (kI l lab a)
def da:Option Nat->Int
 | some n=>n
 | none=>-1
theorem Tx(h:s<M.length):kI M z y3 s=((M[s].ZH.toList==z.toList) && !(M[s].ZG==1)&&cL M s y3):=by grind [kI]
theorem gP(b:D<T)(c:yv D=true)(a:∀i,i<D->yv i=false):(List.range T).find? yv=some D :=
 by simp_all
theorem iI(a:∀i,i<T->yv i=false):(List.range T).find? yv=none :=
 by grind
theorem iR(h:dI I x y M z7)(N:M.length<=1073741824) :
  br 163 #[pointer (some (X x y)),J z9,Y H] I (gG (Y (da (eA M z9 H))) I):=by have c:=h.at;go_enter func163,ntmps163;go_wp2;go_loopg [7] M.length (λg i wr=>∃k:Nat,k<=M.length/\g=M.length-k/\i=Y k/\Z (∀i,i<k->kI M z9 H i=false)/\wr=I);{exact⟨0,by omega,by omega,rfl,λi q=>by omega,rfl⟩};obtain⟨k,L,K,rfl,a,rfl⟩:=hrel;by_cases b:k<M.length;{(obtain⟨g,z,F,G,D,E,r,s,t,u,v,w⟩:=h.ZD.stmt k b;clear r s t u v w;rw[z]at c;have f:Z _:=Tx M z9 H k b;have n:Z (dI wr x y M z7):=h;generalize M[k].ZH=B at *;generalize M[k].ZG=m at *;have next:Z (kI M z9 H k=false->∀i,i<k+1->kI M z9 H i=false):=by intro A i q;by_cases e:i=k;{subst e;exact A};{exact a i (by omega)});cases o:(B.toList==z9.toList);{have d:Z (kI M z9 H k=false):=(by show _=_;rw[f.o,o];simp);clear f h;go_wp2;go_roundg (M.length-(k+1));{exact⟨k+1,by omega,rfl,by go_num,next d,rfl⟩};omega};{cases j:(m==1);{have l:(m != 1)=true:=(by simp[bne,j]);cases p:cL M k H;{have d:Z (kI M z9 H k=false):=(by show _=_;rw[f.o,p];simp);clear f h;go_wp2_with (go_at_call 95;refine(ig x y k H M z7 _ n b).mono ?_;rintro e C ⟨rfl,rfl⟩);go_roundg (M.length-(k+1));{exact⟨k+1,by omega,rfl,by go_num,next d,rfl⟩};omega};{have d:Z (eA M z9 H=some k):=gP b (by rw[f.o,o,j,p];rfl) a;clear f h;go_wp2_with (go_at_call 95;refine(ig x y k H M z7 _ n b).mono ?_;rintro e C ⟨rfl,rfl⟩);go_ret;exact⟨aH (by rw[d.o];rfl),rfl⟩}};{have l:(m != 1)=false:=(by simp[bne,j]);have d:Z (kI M z9 H k=false):=eE (by rw[f.o,j];simp);clear f h;go_wp2;go_roundg (M.length-(k+1));{exact⟨k+1,by omega,rfl,by go_num,next d,rfl⟩};omega}}};{have d:Z (eA M z9 H=none):=iI (λi q=>a i (by omega));clear h;go_wp2;go_ret;exact⟨aH (by rw[d.o];rfl),rfl⟩}
def cC(w:World)(h:Hd)(l:Vs):Prop :=
 l=[]∨∃g off cur t,h.ao=some (X g off)/\w.heap[g]?=some (aK cur t)/\(∀j x,l[j]?=some x->cur[off+j]?=some (J x))/\l.length<=h.cap/\h.cap<=9223372036854775807
theorem aO.view(o:aO f yc (aw y2)):cC f yc y2:=by rcases o.ZC with ⟨_,l,_⟩ | ⟨g,a,c,d,e,b,n,i⟩;{exact VS (Wb l)};{(refine VO ⟨g,0,a,_,c,d,?_,e,by unfold maxLen at b;exact b⟩;intro j x m;have k:a.toList.take (y2.length*1)=strs y2:=i;have:(strs y2)[j]?=some (J x):=by simp[strs,m]);grind}
theorem cC.ZE{S:Vu}(v:cC f yc y2)(k:ab S f o)(i:∀x,yc.ZF=some x->x∉S):cC o yc y2:=by rcases v with v | ⟨g,b,a,t,c,d,e⟩;{exact VS v};{exact VO ⟨g,b,a,t,c,k.get d (by grind [Hd.ZF]),e⟩}
theorem cC.Zr(v:cC f yc y2)(k:aJ f o):cC o yc y2:=v.ZE k (by simp)
theorem kM(h:y8=y9):cA (J y8)=cA (J y9):=by rw[h]
theorem Sd(p:cC I y0 z5)(n:z5.length<=1073741824) :
  br 121 #[Q y0.ao z5.length y0.cap,J z] I (gG (bool (bu z5 z)) I):=by obtain⟨q,j⟩:=y0;rcases p with rfl | ⟨g,b,l,t,e,m,s,u,v⟩;{clear n;go_enter func121,ntmps121;go_wp2;refine Xe 1 ?_;rw[XB];go_wp2;go_ret;exact⟨rfl,rfl⟩};{simp only at e;subst e;go_enter func121,ntmps121;go_wp2;go_loopg [5] z5.length (λg i wr=>∃k:Nat,k<=z5.length/\g=z5.length-k/\i=Y k/\Z (bu z5 z=bu (z5.drop k) z)/\wr=I);{exact⟨0,by omega,by omega,rfl,rfl,rfl⟩};obtain⟨k,x,w,rfl,d,rfl⟩:=hrel;by_cases a:k<z5.length;{have r:bY wr g (b+k) (J z5[k]):=(ay m (b+k)).trans (by grind);cases f:((z5[k]).toList==z.toList);{have c:Z _:=Ho z5 z k a d f;go_wp2;go_roundg (z5.length-(k+1));{grind};omega};{have c:Z _:=Nn z5 z k a d f;go_wp2;go_ret;exact⟨aT c.o.symm,rfl⟩}};{have c:Z _:=Ht z5 z k a d;go_wp2;go_ret;exact⟨aT c.o.symm,rfl⟩}}
def aI(s:St):Vq:=s.Zm.getD 0 ⟨#[]⟩
def ar(s:St):Vq:=if(s.ZG==2)=true/\2<=s.Zm.length then s.Zm.getD 1 ⟨#[]⟩ else⟨#[]⟩
theorem mC(h:s<z5.length):z5.getD s ⟨#[]⟩=z5[s]:=by grind
theorem pZ(p:cC I zz c.Zm)(w:c.Zm.length<=1073741824) :
  br 99 #[cX c zz y0] I (mu (J (aI c)) I):=by unfold cX;obtain⟨r,j⟩:=zz;rcases p with l | ⟨g,b,k,t,f,i,m,u,v⟩;{(have a:Z (aI c=⟨#[]⟩):=by show _=_;grind [aI]);rw[l];simp only[List.length_nil];go_enter func99,ntmps99;go_wp2;go_ret;exact⟨kM a.o.symm,(ab.refl _ _).alloc _⟩};{simp only at f;subst f;by_cases q:c.Zm.length=0;{have d:((c.Zm.length:Int)==0)=true:=(by simp[q]);have a:Z (aI c=⟨#[]⟩):=eE (by grind [aI]);go_enter func99,ntmps99;go_wp2;go_ret;exact⟨kM a.o.symm,(ab.refl _ _).alloc _⟩};{have d:((c.Zm.length:Int)==0)=false:=(by grind);have e:0<c.Zm.length:=(by omega);have a:Z (aI c=c.Zm[0]):=mC _ _ e;have s:bY I g b (J c.Zm[0]):=(ay i b).trans (m 0 _ (by simp));have n:=ak i;go_enter func99,ntmps99;go_wp2;go_ret;exact⟨kM a.o.symm,(ab.refl _ _).alloc _⟩}}
theorem iM(n:cC I zz c.Zm)(v:c.Zm.length<=1073741824) :
  br 97 #[cX c zz y0] I (mu (J (ar c)) I):=by unfold cX;cases x:(c.ZG==2);{(have e:(c.ZG != 2)=true:=by grind);have a:Z (ar c=⟨#[]⟩):=eE (by grind [ar]);go_enter func97,ntmps97;go_wp2;go_ret;exact⟨kM a.o.symm,(ab.refl _ _).alloc _⟩};{(have e:(c.ZG != 2)=false:=by grind);by_cases w:c.Zm.length<2;{have a:Z (ar c=⟨#[]⟩):=(by show _=_;grind [ar]);go_enter func97,ntmps97;go_wp2;go_ret;exact⟨kM a.o.symm,(ab.refl _ _).alloc _⟩};{have b:1<c.Zm.length:=(by omega);obtain⟨p,j⟩:=zz;rcases n with l | ⟨g,d,k,t,f,i,r,s,u⟩;{rw[l]at b;simp at b};{simp only at f;subst f;have a:Z (ar c=c.Zm[1]):=eE (by grind [ar,mC]);have q:bY I g (d+1) (J c.Zm[1]):=(ay i (d+1)).trans (by grind);have m:=ak i;go_enter func97,ntmps97;go_wp2;go_ret;exact⟨kM a.o.symm,(ab.refl _ _).alloc _⟩}}}
def iU(s:St)(syms:Vs):Bool:=if(s.ZG==2)=true then bu syms (ar s) else(s.ZG==3)
theorem yk(b:Hd)(l:Vs)(w:World)(q:cC w zz c.Zm)(j:cC w b l)(p:c.Zm.length<=1073741824)(g:l.length<=1073741824) :
  br 96 #[cX c zz y0,Q b.ao l.length b.cap] w (mu (bool (iU c l)) w):=by have n:=λ(m:World) (i:cC m zz c.Zm)=>iM c zz y0 m i p;have a:Z _:=n;unfold cX at a ⊢;cases r:(c.ZG==2);{(have d:Z (iU c l=(c.ZG==3)):=by show _=_;grind [iU]);go_enter func96,ntmps96;go_wp2;go_ret;exact⟨aT (by rw[d.o]),(ab.refl _ _).alloc _⟩};{(have d:Z (iU c l=bu l (ar c)):=by show _=_;unfold iU;rw[r];simp);go_enter func96,ntmps96;go_wp2_with fail;refine(a _ (by exact q.Zr (bH.alloc _))).mono ?_;rintro e s ⟨rfl,f⟩;have k:=((ab.refl [] w).alloc _).trans f;go_wp2_with fail;refine(Sd b l _ _ (by exact j.Zr k) g).mono ?_;rintro e t ⟨rfl,rfl⟩;go_wp2;go_ret;exact⟨aT (by rw[d.o]),k⟩}
end Go.Proofs.YtnbalopedcgpcaaGreat

import Derived.Test.YtnbalopedcgpcaaGreatI21
namespace Go.Proofs.YtnbalopedcgpcaaGreat
open Go.RowKit Tryz
open Value IntKind Ending
set_option linter.all false
set_option maxHeartbeats 0
variable{w S:UInt8}{f n:Nat}{x:Vq->Prop}(l:Vq)(H:Nat)(b:Vq)
theorem DY(c:UInt8)(h:eV (c.toNat:Int)=true/\(c.toNat:Int)≠36):Wd ⟨#[c]⟩:=by (have e:(⟨#[c]⟩:Vq).size=1:=rfl;refine⟨by omega,λi a=>?_⟩;obtain rfl:i=0:=by omega);rw[aR _ _ a];exact h
theorem Se:Wd ⟨#[63]⟩:=DY 63 (by decide)
def mP(c:UInt8)(i:Nat):List UInt8:=101 :: c :: (df i).toList
theorem mH(a:w=120∨w=121)(h:f<4200):fQ (dJ w f)=true:=by have:=(qV h).2;unfold fQ dJ at *;rw[Ye,this];rcases a with rfl | rfl <;> decide
theorem zO(a:w=120∨w=121)(h:f<4200):fQ (lR w f)=true:=by have:=(qV h).2;unfold fQ lR at *;rw[Ye,Ye,this];rcases a with rfl | rfl <;> decide
theorem Rs(a:w=120∨w=121)(h:f<4200):fQ (mP w f)=true:=by have:=(qV h).2;unfold fQ mP at *;rw[Ye,Ye,this];rcases a with rfl | rfl <;> decide
theorem Rq(a:f<4200)(b:n<4200)(h:mP w f=mP S n):w=S/\f=n:=⟨(WU (WU h).2).1,xS a b (WU (WU h).2).2⟩
theorem UY(a:f<4200)(b:n<4200)(h:lR w f=lR S n):w=S/\f=n:=⟨(WU (WU h).2).1,xS a b (WU (WU h).2).2⟩
theorem pg(a:f<4200)(b:n<4200)(h:dJ w f=dJ S n):w=S/\f=n:=⟨(WU h).1,xS a b (WU h).2⟩
section
variable {T z:Vq} {d0 d:Db} {B:List (Nat×Nat)} {R:Vu} {ls vs tv:List (List UInt8)} {N:List Q}
theorem lS.dj(h:lS z d0 d B R ls vs tv N)(o:lI T z){a b:List UInt8}(m:fQ a=true)(n:fQ b=true)(g:a∈vs)(i:b∈vs)(k:a≠b)(j:N≠[]) :
  bG [kw 100,nm z a,nm z b,kw 46] d (λf=>lS z d0 f B R ls vs tv (N++[⟨1,⟨#[]⟩,[nm z a,nm z b],[],cQ,0⟩])):=by refine(GK h.idle 100 1 (by simp) [nm z a,nm z b] ?_ (by simp) (λ_=>by simp) ?_ ?_).mono ?_;{grind [gx]};{refine Y7.2 ⟨λy e=>?_,Zo ..⟩;grind [uH]};{intro y e;rw[VI (by decide)];simp[List.mem_cons,List.not_mem_nil,or_false]at e;rcases e with rfl | rfl;{exact h.hasA g};{exact h.hasA i}};{rintro f ⟨p,rfl⟩;rw[VI (by decide)];have⟨M,l,c⟩:=h.ZZ;refine⟨⟨rfl,rfl,rfl,rfl⟩,h.Z1,h.rbl,h.lab,h.con,h.var,h.act,h.typ,⟨M++[⟨1,d.Z5,[nm z a,nm z b],[],p,0⟩],?_,?_⟩,λ_=>rfl,h.sub⟩;{grind};{rw[VU,c,h.nol j];rfl}}
def xR(z:Vq)(c:UInt8)(ts:Vs)(i:Nat):Vs:=[kw 118,nm z (dJ c i),kw 46,nm z (lR c i),kw 102,gD ts i,nm z (dJ c i),kw 46]
def oB(z:Vq)(c:UInt8)(ts:Vs)(i:Nat):Q:=⟨2,nm z (lR c i),[gD ts i,nm z (dJ c i)],[],cQ,0⟩
theorem UN(l:lI T z)(k:Nm (Eh T) d0)(b:w=120∨w=121)(a:Vs)(is:Vu):∀{d:Db} {ls vs tv:List (List UInt8)} {N:List Q},(∀i∈is,i<4200/\Wd (gD a i)/\bi d0.ZK (gD a i)=true)->is.Nodup->lS z d0 d B R ls vs tv N ->
  (∀i∈is,lR w i∉ls/\dJ w i∉ls/\dJ w i∉vs/\dJ w i∉tv)->bG (is.flatMap (xR z w a)) d (λc=>lS z d0 c B R (ls++is.map (lR w)) (vs++is.map (dJ w)) (tv++is.map (dJ w)) (N++is.map (oB z w a))):=by induction is with|nil=>grind [bG.nil]|cons i is y=>intro d ls vs tv N e g h t;have⟨j,u,x⟩:=e i (by simp);have⟨n,o,p,q⟩:=t i (by simp);have⟨D,A⟩:=Zy.1 g;rw[Wf];refine bG.append (R:=λc=>lS z d0 c B R (ls++[lR w i]) (vs++[dJ w i]) (tv++[dJ w i]) (N++[oB z w a i])) ?_ (λm r=>?_);{show bG ([kw 118,nm z (dJ w i),kw 46]++(nm z (lR w i) :: kw 102 :: ([gD a i,nm z (dJ w i)]++[kw 46]))) d _;refine bG.append (h.v l k (mH b j) o p (by rcases b with rfl | rfl;exact VR rfl;exact VH rfl)) (λC s=>?_);exact s.f l k (zO b j) (mH b j) n (by refine⟨?_,?_⟩ <;> (show(102:UInt8)≠_;decide)) (by simp) q u x};{have:=y (d:=m) (ls:=ls++[lR w i]) (vs:=vs++[dJ w i]) (tv:=tv++[dJ w i]) (N:=N++[oB z w a i]) (by grind) A r (by grind [lR,UY,dJ,pg]);simpa using this}
def Ms(z:Vq)(p:List UInt8×List UInt8):Vs:=[kw 100,nm z p.1,nm z p.2,kw 46]
def EQ(z:Vq)(p:List UInt8×List UInt8):Q:=⟨1,⟨#[]⟩,[nm z p.1,nm z p.2],[],cQ,0⟩
theorem UO(i:lI T z)(a:List (List UInt8×List UInt8)):∀{d:Db} {N:List Q},(∀p∈a,(fQ p.1=true/\fQ p.2=true)/\p.1∈vs/\p.2∈vs/\p.1≠p.2)->(a≠[]->N≠[])->lS z d0 d B R ls vs tv N ->
  bG (a.flatMap (Ms z)) d (λb=>lS z d0 b B R ls vs tv (N++a.map (EQ z))):=by induction a with|nil=>grind [bG.nil]|cons p a j=>intro d N g f h;have⟨⟨k,l⟩,m,n,o⟩:=g p (by simp);rw[Wf];refine bG.append (h.dj i k l m n o (f (by simp))) (λc e=>?_);have:=j (d:=c) (N:=N++[EQ z p]) (by grind) (λ_=>by simp) e;simpa using this
def As(z:Vq)(e:List UInt8×Vs):Vs:=nm z e.1 :: kw 101 :: (e.2++[kw 46])
def p6(z:Vq)(e:List UInt8×Vs):Q:=⟨3,nm z e.1,e.2,[],cQ,0⟩
def Cl(d0:Db)(z:Vq)(tv:List (List UInt8))(e:Vs):Prop:=∃t ys,e=t :: ys/\Wd t/\bi d0.ZK t=true/\∀y∈ys,SyK d0 z tv y
theorem UP(r:lI T z)(q:Nm (Eh T) d0)(a:List (List UInt8×Vs)):∀{d:Db} {ls:List (List UInt8)} {N:List Q},(∀e∈a,fQ e.1=true/\e.1∉ls/\(e.1.headD 0≠120/\e.1.headD 0≠121)/\Cl d0 z tv e.2)->(a.map (·.1)).Nodup->lS z d0 d B R ls vs tv N ->
  bG (a.flatMap (As z)) d (λc=>lS z d0 c B R (ls++a.map (·.1)) vs tv (N++a.map (p6 z))):=by induction a with|nil=>grind [bG.nil]|cons e a s=>intro d ls N p b h;have⟨g,i,j,t,w,k,l,m,n⟩:=p e (by simp);rw[Wp]at b;have⟨v,u⟩:=Zy.1 b;rw[Wf];refine bG.append (R:=λc=>lS z d0 c B R (ls++[e.1]) vs tv (N++[p6 z e])) ?_ (λf o=>?_);{have:=h.st r q g i j 101 3 (by simp) l m n;unfold As p6;rw[k];exact this};{have:=s (d:=f) (ls:=ls++[e.1]) (N:=N++[p6 z e]) (by grind) u o;simpa using this}
end
structure Jb where
 tf:Vs
 tg:Vs
 xs:Vu
 ds:List (List UInt8×List UInt8)
 es:List (List UInt8×Vs)
 goal:Vs
 w1:Vs
 w2:Vs
 tw:Bool
def Jb.hs(b:Jb)(z:Vq):List Q:=b.xs.map (oB z 120 b.tf)++(List.range b.tg.length).map (oB z 121 b.tg)++b.ds.map (EQ z)++b.es.map (p6 z)
def thS(z:Vq)(s:List UInt8)(g ws:Vs):Q:=⟨5,nm z s,g,ws.map (λx=>(x,cQ)),cQ,0⟩
def zdu(z:Vq)(s:List UInt8)(g:Vs):Q:=⟨4,nm z s,g,[],cQ,0⟩
def Jb.tws(b:Jb)(z:Vq):List Q:=if b.tw=true then [zdu z [112] b.goal,thS z [111] b.goal [⟨#[63]⟩]] else []
def Jb.ZZ(b:Jb)(z:Vq):List Q:=b.hs z++([thS z [110] b.goal b.w1,thS z [99] b.goal b.w2]++b.tws z)
def thW(z:Vq)(s:List UInt8)(g ws:Vs):Vs:=nm z s :: kw 112 :: (g++kw 61 :: (ws++[kw 46]))
def Jb.vs(b:Jb):List (List UInt8):=b.xs.map (dJ 120)++(List.range b.tg.length).map (dJ 121)
structure zdm(d0:Db)(z:Vq)(b:Jb):Prop where
 xs:∀i∈b.xs,i<4200/\Wd (gD b.tf i)/\bi d0.ZK (gD b.tf i)=true
 xn:b.xs.Nodup
 ys:∀t∈b.tg,Wd t/\bi d0.ZK t=true
 yl:b.tg.length<4200
 ds:∀p∈b.ds,p.1∈b.vs/\p.2∈b.vs/\p.1≠p.2
 es:∀e∈b.es,(∃c i,(c=120∨c=121)/\i<4200/\e.1=mP c i)/\Cl d0 z b.vs e.2
 en:(b.es.map (·.1)).Nodup
 goal:Cl d0 z b.vs b.goal
 w1:∀x∈b.w1,Wd x
 w2:∀x∈b.w2,Wd x
structure zdo(l L:List Q)(z:Vq)(b:Jb):Prop where
 pre:∃M,L=l++M/\M.map rQ=(b.ZZ z).map (dq (l.length+(b.ZZ z).length))
section
variable {T z:Vq} {d0:Db}
theorem Mv(N:List Q):CC 0 H N=N.map (dq H):=by unfold CC;apply WZ;simp
end
def Bdy(d:Vq)(k:Nat):Prop:=k=d.size∨(k<d.size/\db (zeb d k)=true)
theorem LK(g:H<=l.size)(h:aG (bA l H).1=true):Bdy l (bA l H).2/\H+(bA l H).1.text.size<=(bA l H).2/\(Bdy l H->H+(bA l H).1.text.size+1<=(bA l H).2)/\1<=(bA l H).1.text.size:=by (have a:=kZ l H g;have b:=i6 l (skip l H) a.2;have j:Bdy l H->bL l (skip l H)<=skip l H∨H+1<=skip l H:=λq=>by rcases q with rfl | ⟨k,m⟩;{omega};grind [m9,kZ]);unfold bA at h ⊢;simp only at h ⊢;split at h;{simp[aG]at h};{next d => rw[VI d];split at h;{simp[aG]at h};{next f => (rw[VI f];have i:(l.extract (skip l H) (bL l (skip l H))).size=bL l (skip l H)-skip l H:=by simp_all);simp only[i];refine⟨?_,by omega,λq=>?_,by omega⟩;{by_cases e:bL l (skip l H)=l.size;{exact VR e};{have c:bL l (skip l H)<l.size:=(by omega);refine VH ⟨c,?_⟩;grind}};grind}}
theorem EF(f:Nat):∀k,k<=b.size->aG (bY b f k).1=true->Bdy b (bY b f k).2/\k<=(bY b f k).2:=by induction f with|zero=>grind [bY,aG]|succ f a=>grind [gy,bY,aG,LK]
theorem FQ(f:Nat):∀k,k<=b.size->aG (cT b f k).1=true->Bdy b (cT b f k).2/\k+(cT b f k).1.text.size<=(cT b f k).2/\(Bdy b k->k+(cT b f k).1.text.size+1<=(cT b f k).2)/\1<=(cT b f k).1.text.size:=by induction f with|zero=>grind [cT,aG]|succ f d=>intro k a h;have c:=gy b k a;grind [cT,LK,fV,bA,EF,bj]
def nD(l:List Q):Nat:=l.countP (λs=>decide (2<=s.Z3))
def Ax(d:Db):Nat:=if d.Z3=6 then 2 else if 2<=d.Z3/\d.Z3<=5 then(if d.ZI=[] then 5 else 7) else 0
def sJ(d:Db):Nat:=10*nD d.ZZ+Ax d
theorem Th(l:List Q)(b:Nat):nD (dy l b)=nD l:=by (unfold nD;have e:(dy l b).map (λs=>s.Z3)=l.map (λs=>s.Z3):=by apply WZ;grind [il,oy]);(have a:∀m:List Q,m.countP (λs=>decide (2<=s.Z3))=(m.map (λs=>s.Z3)).countP (λk=>decide (2<=k)):=λm=>by rw[Zz];rfl);grind
theorem Ge(d:Db)(h:¬d.Z3=6)(a:¬(2<=d.Z3/\d.Z3<=5)):Ax d=0:=by grind [Ax]
theorem QG{d:Db}(N:Nm x d)(e:Vq)(D:1<=e.size)(p:Pl)(a:(aO d e p).1=0):sJ (aO d e p).2<=sJ d+e.size+1:=by (have k:∀c:UInt8,(e.toList == [36,c])=true->e.size=2:=λc h=>by have:=congrArg List.length (W0 h);rw[Wc,Y1]at this;exact this);(have b:∀f:Db,nD f.ZZ=nD d.ZZ->Ax f=0->sJ f<=sJ d+e.size+1:=by grind [sJ]);unfold aO at a ⊢;by_cases g:(d.Z3==0)=true;{(rw[VQ g]at a ⊢;have g:=W0 g;have l:∀f:Db,f.Z3=0->Ax f=0:=by grind [Ge]);unfold aE at a ⊢;split at a;{grind};{next c => rw[VI c];split at a;{next j => rw[VQ j];cases A:d.Z6.getLast? with|none=>grind|some q=>{simp only;unfold fB;cases B:d.rbl.getLast? with|none=>exact b _ rfl (l _ g)|some y=>exact b _ (Th ..) (l _ g)}};grind [Ge,bM,sJ,nD,Ax]}};{rw[VI g]at a ⊢;by_cases i:(d.Z3==6)=true;{rw[VQ i]at a ⊢;have i:=W0 i;have C:=N.nne (VH i);grind [Ax,sJ,aX]};{rw[VI i]at a ⊢;split at a;{next c => rw[VQ c];have z:=k _ c;unfold lm at a ⊢;split at a;{cases a};{next j => rw[VI j];split at a;{cases a};{next m => (rw[VI m];have s:d.ZI≠[]:=by grind [fM]);have t:Ax { cG d p with Z3:=0,Z5:=⟨#[]⟩,ZI:=[],ZM:=false,ZT:=[] }=0:=(by rfl);unfold sJ;rw[t];show 10*nD (cG d p).ZZ+0<=_;unfold cG;split;{grind};{next v => split;{show 10*nD d.ZZ+0<=_;omega};{next w => (have n:(rP (eA d) p).ZZ=d.ZZ++[⟨d.Z3,d.Z5,d.ZI,d.ZT,p,0⟩]:=by grind [rP,eA]);rw[n];unfold nD;rw[List.countP_append];by_cases o:2<=d.Z3;{(have r:d.Z3<=5:=by have:=N.Z3.2;grind);grind [Ax]};grind}}}}};grind [cE,sJ,nD,Ax,aF]}}
theorem JB(o:∀k,k<=b.size->aG (au b k).1=true->eW (au b k).1.text=false->x (au b k).1.text)(f:Nat):∀k d,k<=b.size->Nm x d->((k=0/\sJ d=0)∨(sJ d<=k+1/\Bdy b k))->(dC l b f k d).1.1=0->sJ (dC l b f k d).2<=b.size+1:=by induction f with|zero=>intro k d c _ h _;show sJ d<=_;omega|succ f j=>intro k d c N h a;rw[dC]at a ⊢;by_cases i:aG (au b k).1=true;{rw[VQ i]at a ⊢;have e:=FQ b _ k c i;by_cases g:((aO d (au b k).1.text (gZ l b (au b k).1.pos)).1==0)=true;{rw[VQ g]at a ⊢;have p:=QG N (au b k).1.text e.2.2.2 (gZ l b (au b k).1.pos) (W0 g);refine j _ _ (fG b k c).2.1 (N.take _ _ (by grind)) (VH ⟨?_,e.1⟩) a;have n:(au b k).2=(cT b (b.size-k+1) k).2:=rfl;have m:(au b k).1=(cT b (b.size-k+1) k).1:=rfl;grind};grind};grind
theorem xN{T:Vq}(a:dE T):10*nD (bz T).2.ZZ<=1025:=by have h:=JB ⟨#[109]⟩ T (qq T) (T.size-0+1) 0 bK (WD _) Nm.empty (VR ⟨rfl,rfl⟩) a.ok;have b:sJ (bz T).2<=T.size+1:=h;have:=a.size;grind [sJ]
end Go.Proofs.YtnbalopedcgpcaaGreat

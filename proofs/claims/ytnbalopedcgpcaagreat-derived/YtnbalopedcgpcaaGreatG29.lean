import Derived.Test.YtnbalopedcgpcaaGreatG28
namespace Go.Proofs.YtnbalopedcgpcaaGreat
open Go.RowKit Tryz
open Value renaming int->Xx,string->Xy,slice->Xz,tuple->XD
open Obj renaming cells->XE
open IntKind renaming i64->XF
open Ending renaming returned->XH
open World renaming cell?->XI
open Option renaming none->XJ,some->XK
open Bool renaming true->XL,false->XM
open Go.RowKit renaming Hid->XN
open Go renaming Calls->XO,World->XP,Value->XQ
set_option maxHeartbeats 0
variable{H:ByteArray}{l:Db}{w:List UInt8}{o:Int}{S k:List ByteArray}{I:List Nat}{b y:Nat}{M:UInt8}{a g:XP}{D:Hd}{m:Option Addr}(L:ByteArray)(x:Int)(n:Nat)
def jh(s:St):St:={ s with Ux:=[],fin:=db }
def nm(z:ByteArray)(l:List UInt8):ByteArray:=z++ja l
theorem Cd(a b:List UInt8):((nm L a).toList==(nm L b).toList)=(a==b):=by
 unfold nm;rw[Do,pF,pF]
theorem sK(c:List (List UInt8))(a:List UInt8):aM (c.map (nm L)) (nm L a)=c.contains a:=by
 unfold aM
 induction c with
 | nil=>rfl
 | cons b c d =>
  simp only[List.map_cons,List.any_cons,d,Cd,List.contains_cons];rw[show(b==a)=(a==b) from BEq.comm]
theorem IE(v l:List ByteArray)(x:ByteArray):aM (bS v l) x=(aM v x||aM l x):=by
 unfold bS
 induction l generalizing v with
 | nil=>simp[aM]
 | cons a l c =>
  simp only[List.foldl_cons];rw[c];have e:aM (a :: l) x=((a.toList==x.toList)||aM l x):=rfl;rw[e];split
  ·next h =>
   cases b:(a.toList==x.toList)
   ·simp
   ·have:aM v x=XL:=uZ b h;rw[this];simp
  ·rw[i8,wL,Bool.or_assoc]
structure PC(z:ByteArray)(d0 d:Db)(ls tv:List (List UInt8))(N:List St):Prop where
 idle:lB d
 blk:d.blocks=[(d0.Uv.length,d0.Uy.length)]
 rbl:d.rbl=d0.rbl++[d0.UD.length]
 lab:d.Uu=d0.Uu++ls.map (nm z)
 con:d.Uo=d0.Uo++[nm z [99]]
 var:d.Up=bS d0.Up ([[48],[49],[50]].map (nm z))
 act:d.Uv=d0.Uv++[[48],[49],[50]].map (nm z)
 typ:d.Uy=d0.Uy++tv.map (nm z)
 UD:∃M,d.UD=d0.UD++M/\M.map jh=N
 nol:d.label=⟨#[]⟩
theorem pM{z:ByteArray}(c:lx H z)(a:List UInt8)(b:jG a=XL):Wd (nm z a)/\dF (nm z a)=XL:=c.name a b
def oA(s:St):St:={ s with Ux:=s.Ux.map (fun x=>(x.1,db)),fin:=db }
theorem Mq{d:Db}(h:d.kind=6)(p:Pl):aK d (kw 112) p=(0,{ d with kind:=5 }):=by
 unfold aK;rw[PV (by rw[h];decide),PZ (by rw[h];rfl)];unfold aN;rw[gE];simp
theorem Mp{d:Db}(h:d.kind=5)(a:d.Uq=XM)(b:d.Um.length≠0)(p:Pl):aK d (kw 61) p=(0,{ d with Uq:=XL }):=by
 unfold aK;rw[PV (by rw[h];decide),PV (by rw[h];decide),PV (by rw[gE];decide),PZ ⟨by rw[gE];rfl,by rw[h];rfl,a⟩];unfold bO;rw[PV b]
theorem Ms(h:l.kind=5)(b:l.Uq=XL)(x:ByteArray)(a:Wd x)(p:Pl):aK l x p=(0,{ l with Ux:=l.Ux++[(x,p)] }):=by
 unfold aK;rw[PV (by rw[h];decide),PV (by rw[h];decide),PV (by rw[a.notKey];simp),PV (by rintro ⟨h,-⟩;rw[a.notKey]at h;cases h),PV (by rw[a.noDollar];simp),PZ b]
theorem L9(b:List ByteArray):∀(d:Db),d.kind=5->d.Uq=XL->(∀y∈b,Wd y)->bz b d (fun e=>∃a:List (ByteArray×Pl),a.map (·.1)=b/\e={ d with Ux:=d.Ux++a }):=by
 induction b with
 | nil=>intro d _ _ _;exact bz.nil ⟨[],rfl,by simp⟩
 | cons y n m =>
  intro d g i j;refine bz.cons (R:=fun f=>∃p,f={ d with Ux:=d.Ux++[(y,p)] }) (fun p=>by rw[Ms g i y (j y (by simp)) p];exact⟨rfl,p,rfl⟩) ?_;rintro f ⟨p,rfl⟩;refine(m { d with Ux:=d.Ux++[(y,p)] } g i (fun z l=>j z (Qv _ l))).mono ?_;rintro e ⟨a,k,rfl⟩;exact⟨(y,p) :: a,by rw[Ru,k],by simp⟩
theorem OP(h:lB l)(a:ByteArray)(C:Wd a)(z:dF a=XL)(A:cm l a=XM)(c:List ByteArray)(B:∀y∈c,Wd y)(u:1<=c.length)(k:List ByteArray)(n:∀y∈k,Wd y)(w:∀(d:List ByteArray) y i,c=d++y :: i->aC { l with kind:=5,Um:=d } y=0) :
  bz (a :: kw 112 :: (c++kw 61 :: (k++[kw 46]))) l (fun o=>∃p j,j.map (·.1)=k/\o={ l with Uu:=l.Uu++[a],UD:=l.UD++[⟨5,a,c,j,p,0⟩],label:=⟨#[]⟩ }):=by
 refine bz.cons (R:=fun f=>f={ l with Uu:=l.Uu++[a],label:=a,kind:=6 }) (fun p=>by rw[ua h a C z A];exact⟨rfl,rfl⟩) ?_;rintro f rfl;refine bz.cons (R:=fun f=>f={ l with Uu:=l.Uu++[a],label:=a,kind:=5 }) (fun p=>by rw[Mq (d:={ l with Uu:=l.Uu++[a],label:=a,kind:=6 }) rfl];exact⟨rfl,rfl⟩) ?_;rintro f rfl;refine bz.append (R:=fun f=>f={ l with Uu:=l.Uu++[a],label:=a,kind:=5,Um:=c }) ?_ ?_
 ·refine(tO c { l with Uu:=l.Uu++[a],label:=a,kind:=5 } (show(5:Int)≠0 by decide) (show(5:Int)≠6 by decide) h.prf B ?_).mono ?_
  ·intro d y i x;have v:=w d y i x;have e:aC { l with Uu:=l.Uu++[a],label:=a,kind:=5,Um:=l.Um++d } y=aC { l with kind:=5,Um:=d } y:=by
    rw[h.syms];rfl
   rw[e];exact v
  ·rintro o rfl;simp[h.syms]
 rintro f rfl
 refine bz.cons (R:=fun f=>f={ l with Uu:=l.Uu++[a],label:=a,kind:=5,Um:=c,Uq:=XL }) (fun p=>by
  rw[Mp (d:={ l with Uu:=l.Uu++[a],label:=a,kind:=5,Um:=c }) rfl h.prf (by show c.length≠0;omega) p];exact⟨rfl,rfl⟩) ?_
 rintro f rfl;refine bz.append (L9 k { l with Uu:=l.Uu++[a],label:=a,kind:=5,Um:=c,Uq:=XL } rfl rfl n) ?_;rintro f ⟨j,m,rfl⟩;refine bz.one (fun p=>?_);have e:aK { l with Uu:=l.Uu++[a],label:=a,kind:=5,Um:=c,Uq:=XL,Ux:=l.Ux++j } (kw 46) p=(0,{ l with Uu:=l.Uu++[a],UD:=l.UD++[⟨5,a,c,j,p,0⟩],label:=⟨#[]⟩ }):=by
  unfold aK;rw[PV (show ¬((5:Int)==0)=XL by decide),PV (show ¬((5:Int)==6)=XL by decide),PZ (by rw[gE];rfl)];unfold iU;rw[PV (by show ¬((c.length:Int)<(if((5:Int)==1)=XL∨((5:Int)==2)=XL then 2 else 1));rw[PV (by decide)];omega),PV (by rintro ⟨-,h⟩;cases h)];have q:=h.kind;have r:=h.syms;have s:=h.prf;have t:=h.pr;obtain⟨J,F,P,D,O,E,M,L,H,I,N,G,K⟩:=l;simp only at q r s t;subst q r s t;simp[bK,dh,ov]
 rw[e];exact⟨rfl,p,j,m,rfl⟩
structure nt(z:ByteArray)(d0 d:Db)(B:List (Nat×Nat))(R:List Nat)(ls vs tv:List (List UInt8))(N:List St):Prop where
 idle:lB d
 blk:d.blocks=B
 rbl:d.rbl=R
 lab:d.Uu=d0.Uu++ls.map (nm z)
 con:d.Uo=d0.Uo
 var:∀a:List UInt8,aM d.Up (nm z a)=XL->a.headD 0=120∨a.headD 0=121
 act:d.Uv=d0.Uv++vs.map (nm z)
 typ:d.Uy=d0.Uy++tv.map (nm z)
 UD:∃M,d.UD=d0.UD++M/\M.map oA=N
 nol:N≠[]->d.label=⟨#[]⟩
 sub:∀v∈tv,v∈vs
section
variable {T z:ByteArray} {d0 d:Db} {B:List (Nat×Nat)} {R:List Nat} {ls vs tv:List (List UInt8)} {N:List St}
theorem gN{l:List (List UInt8)}:l.contains w=XL ↔ w∈l:=RH
theorem nt.free(h:nt z d0 d B R ls vs tv N)(k:lx T z)(j:Nm (GR T) d0)(i:w∉ls)(b:w.headD 0≠120/\w.headD 0≠121):cm d (nm z w)=XM:=by
 obtain⟨l,m,-,-,-⟩:=k.not_has j (ja w);have c:aM d0.Uu (nm z w)=XM:=l;have e:aM d0.Uo (nm z w)=XM:=m;have f:aM d.Up (nm z w)=XM:=by
  cases a:aM d.Up (nm z w)
  ·rfl
  ·rcases h.var w a with q | q
   ·exact absurd q b.1
   ·exact absurd q b.2
 have g:ls.contains w=XM:=by
  cases a:ls.contains w
  ·rfl
  ·exact absurd (gN.1 a) i
 unfold cm;rw[h.lab,h.con,i8,sK,c,e,f,g];rfl
theorem nt.freeV(h:nt z d0 d B R ls vs tv N)(l:lx T z)(k:Nm (GR T) d0)(i:w∉ls)(j:w∉vs):di d (nm z w)=XM:=by
 obtain⟨m,n,-,o,-⟩:=l.not_has k (ja w);have b:aM d0.Uu (nm z w)=XM:=m;have c:aM d0.Uo (nm z w)=XM:=n;have e:aM d0.Uv (nm z w)=XM:=o;have f:ls.contains w=XM:=by
  cases a:ls.contains w
  ·rfl
  ·exact absurd (gN.1 a) i
 have g:vs.contains w=XM:=by
  cases a:vs.contains w
  ·rfl
  ·exact absurd (gN.1 a) j
 unfold di;rw[h.lab,h.con,h.act,i8,sK,i8,sK,b,c,e,f,g];rfl
theorem nt.hasT(h:nt z d0 d B R ls vs tv N)(e:lx T z)(c:Nm (GR T) d0)(a:List UInt8):aM d.Uy (nm z a)=tv.contains a:=by
 obtain⟨-,-,-,-,f⟩:=e.not_has c (ja a);have b:aM d0.Uy (nm z a)=XM:=f;rw[h.typ,i8,sK,b];rfl
theorem nt.hasA(h:nt z d0 d B R ls vs tv N)(a:w∈vs):aM d.Uv (nm z w)=XL:=by
 rw[h.act,i8,sK,gN.2 a,Bool.or_true]
theorem nt.v(h:nt z d0 d B R ls vs tv N)(g:lx T z)(n:Nm (GR T) d0)(l:jG w=XL)(i:w∉ls)(j:w∉vs)(k:w.headD 0=120∨w.headD 0=121) :
  bz [kw 118,nm z w,kw 46] d (fun f=>nt z d0 f B R ls (vs++[w]) tv N):=by
 obtain⟨r,-⟩:=pM g w l
 refine(JI h.idle 118 8 (P0 ⟨rfl,rfl⟩) [nm z w] (fun y c=>by rw[Qn.1 c];exact r) (by simp) (fun e=>by cases e) (List.pairwise_singleton _ _) (fun y c=>by
  rw[PZ rfl,Qn.1 c];exact h.freeV g n i j)).mono ?_
 rintro f ⟨p,rfl⟩;rw[PZ rfl];refine⟨⟨rfl,rfl,rfl,rfl⟩,h.blk,h.rbl,h.lab,h.con,fun b m=>?_,?_,h.typ,h.UD,fun _=>rfl,fun v o=>RQ _ (h.sub v o)⟩
 ·have a:aM (bS d.Up [nm z w]) (nm z b)=XL:=m;rw[IE,wL,Cd,Uc]at a;rcases a with q | q
  ·exact h.var b q
  ·rw[<-Rr q];exact k
 ·show d.Uv++[nm z w]=_;rw[h.act];simp
theorem yp(g:2<=o/\o<=5)(d:Db)(a:List ByteArray)(y:ByteArray):aC { d with kind:=o,Um:=a } y=if a.length=0 then(if aM d.Uo y=XM then 17 else 0) else if o=2 then cZ { d with kind:=o,Um:=a } y else cN { d with kind:=o,Um:=a } y:=by
 have e:(o==7)=XM:=by rw[Qi];omega
 have f:(o==8)=XM:=by rw[Qi];omega
 have c:(o==1)=XM:=by rw[Qi];omega
 unfold aC;simp only[e,f,c,Bool.false_eq_true,if_false,beq_iff_eq];rfl
theorem nt.f(h:nt z d0 d B R ls vs tv N)(g:lx T z)(k:Nm (GR T) d0){b:List UInt8}(x:jG b=XL)(u:jG w=XL)(n:b∉ls)(o:b.headD 0≠120/\b.headD 0≠121)(j:w∈vs)(r:w∉tv)(D:Wd H)(A:aM d0.Uo H=XL) :
  bz (nm z b :: kw 102 :: ([H,nm z w]++[kw 46])) d (fun i=>nt z d0 i B R (ls++[b]) vs (tv++[w]) (N++[⟨2,nm z b,[H,nm z w],[],db,0⟩])):=by
 obtain⟨w1,F⟩:=pM g b x;obtain⟨G,-⟩:=pM g w u;refine(JK h.idle (nm z b) w1 F (h.free g k n o) 102 2 (P0 ⟨rfl,rfl⟩) [H,nm z w] (fun y a=>?_) (by simp) (fun _=>rfl) ?_).mono ?_
 ·rcases Q5.1 a with rfl | a
  ·exact D
  ·rw[Qn.1 a];exact G
 ·intro c y l e;rw[yp (by omega)];rcases c with _ | ⟨q,_ | ⟨I,c⟩⟩
  ·have a:H=y:=(by simpa using (Sk e).1);rw[PZ (show([]:List ByteArray).length=0 from rfl),<-a,h.con,PV (by rw[A];simp)]
  ·have a:nm z w=y:=(by simp at e;exact e.2.1);rw[PV (show ¬[q].length=0 by simp),PZ rfl,<-a];unfold cZ;have m:tv.contains w=XM:=by
    cases C:tv.contains w
    ·rfl
    ·exact absurd (gN.1 C) r
   rw[PV (by show ¬1<1;omega),PV (by show ¬aM d.Uv (nm z w)=XM;rw[h.hasA j];simp),PV (by show ¬aM d.Uy (nm z w)=XL;rw[h.hasT g k,m];simp)]
  ·have:=congrArg List.length e;simp at this
 ·rintro i ⟨p,rfl⟩;obtain⟨M,s,t⟩:=h.UD;refine⟨⟨h.idle.kind,h.idle.syms,h.idle.prf,h.idle.pr⟩,h.blk,h.rbl,?_,h.con,h.var,h.act,?_,⟨M++[⟨2,nm z b,[H,nm z w],[],p,0⟩],?_,?_⟩,fun _=>rfl,fun v E=>?_⟩
  ·show d.Uu++[nm z b]=_;rw[h.lab];simp
  ·show d.Uy++[nm z w]=_;rw[h.typ];simp
  ·show d.UD++_=_;rw[s];simp
  ·rw[QA,t];rfl
  ·rcases Qo.1 E with q | q
   ·exact h.sub v q
   ·rw[Qn.1 q];exact j
def Nd(d0:Db)(z:ByteArray)(tv:List (List UInt8))(y:ByteArray):Prop:=(Wd y/\aM d0.Uo y=XL)∨∃v,v∈tv/\jG v=XL/\y=nm z v
theorem nt.chk(h:nt z d0 d B R ls vs tv N)(l:lx T z)(j:Nm (GR T) d0)(n:3<=o/\o<=5)(i:aM d0.Uo H=XL)(k:∀y∈S,Nd d0 z tv y)(a:List ByteArray)(y:ByteArray)(b:List ByteArray)(f:H :: S=a++y :: b):aC { d with kind:=o,Um:=a } y=0:=by
 rw[yp (by omega)];cases a with
 | nil =>
  have e:H=y:=by simpa using (Sk f).1
  rw[PZ (show([]:List ByteArray).length=0 from rfl),<-e,h.con,PV (by rw[i];simp)]
 | cons q a =>
  have e:S=a++y :: b:=by simp at f;exact f.2
  rw[PV (show ¬(q :: a).length=0 by simp),PV (by omega)];unfold cN;rcases k y (by rw[e];simp) with ⟨-,c⟩ | ⟨v,c,-,m⟩
  ·rw[PZ (by show aM d.Uo y=XL;rw[h.con];exact c)]
  ·subst m;split
   ·rfl
   ·rw[PV (by show ¬aM d.Uv (nm z v)=XM;rw[h.hasA (h.sub v c)];simp),PV (by show ¬aM d.Uy (nm z v)=XM;rw[h.hasT l j,gN.2 c];simp)]
theorem J2(a:lx T z)(h:Nd d0 z tv H):Wd H:=by
 rcases h with ⟨q,-⟩ | ⟨v,-,q,rfl⟩
 ·exact q
 ·exact(pM a v q).1
theorem nt.p(h:nt z d0 d B R ls vs tv N)(b:lx T z)(g:Nm (GR T) d0)(o:jG w=XL)(j:w∉ls)(l:w.headD 0≠120/\w.headD 0≠121)(t:Wd H)(r:aM d0.Uo H=XL)(i:∀y∈S,Nd d0 z tv y)(u:∀y∈k,Wd y) :
  bz (nm z w :: kw 112 :: ((H :: S)++kw 61 :: (k++[kw 46]))) d (fun f=>nt z d0 f B R (ls++[w]) vs tv (N++[⟨5,nm z w,H :: S,k.map (fun x=>(x,db)),db,0⟩])):=by
 obtain⟨A,C⟩:=pM b w o;refine(OP h.idle (nm z w) A C (h.free b g j l) (H :: S) (fun y q=>?_) (by simp) k u (fun e y a s=>h.chk b g (by omega) r i e y a s)).mono ?_
 ·rcases Q5.1 q with rfl | q
  ·exact t
  ·exact J2 b (i y q)
 ·rintro f ⟨p,v,c,rfl⟩;obtain⟨M,m,n⟩:=h.UD;refine⟨⟨h.idle.kind,h.idle.syms,h.idle.prf,h.idle.pr⟩,h.blk,h.rbl,?_,h.con,h.var,h.act,h.typ,⟨M++[⟨5,nm z w,H :: S,v,p,0⟩],?_,?_⟩,fun _=>rfl,h.sub⟩
  ·show d.Uu++[nm z w]=_;rw[h.lab];simp
  ·show d.UD++_=_;rw[m];simp
  ·rw[QA,n,List.map_singleton];unfold oA;rw[<-c,R2];rfl
theorem nt.op(h:nt z d0 d B R ls vs tv N):bz [kw 123] d (fun a=>nt z d0 a (B++[(d0.Uv.length+vs.length,d0.Uy.length+tv.length)]) (R++[d0.UD.length+N.length]) ls vs tv N):=by
 refine(JJ h.idle).mono ?_;rintro a rfl;obtain⟨M,b,c⟩:=h.UD;refine⟨⟨h.idle.kind,h.idle.syms,h.idle.prf,h.idle.pr⟩,?_,?_,h.lab,h.con,h.var,h.act,h.typ,⟨M,b,c⟩,h.nol,h.sub⟩
 ·show d.blocks++[(d.Uv.length,d.Uy.length)]=_;rw[h.blk,h.act,h.typ];simp
 ·show d.rbl++[d.UD.length]=_;rw[h.rbl,b,<-c];simp
def Bl(m E:Nat)(N:List St):List St:=N.mapIdx (fun i s=>if m<=i then dE E s else s)
theorem Ey(E:Nat)(s:St):oA (dE E s)=dE E (oA s):=by
 unfold dE oA;split <;> rfl
theorem Bo(l M:List St)(m:Nat):cH (l++M) (l.length+m)=l++Bl m (l.length+M.length) M:=by
 apply Q9;intro i;rw[fI];by_cases a:i<l.length
 ·rw[PR a,PR a,PJ a];simp only[Option.map_some];rw[PV (by omega)]
 ·rw[Qb (by omega),Qb (by omega)];unfold Bl;rw[RO];cases c:M[i-l.length]? with
  | none=>rfl
  | some s =>
   have d:=(Qc.1 c).1;simp only[Option.map_some,List.length_append];by_cases b:m<=i-l.length
   ·rw[PZ (by omega),PZ b]
   ·rw[PV (by omega),PV b]
theorem nt.cl{c:List (Nat×Nat)}{k:Nat}(h:nt z d0 d (c++[(d0.Uv.length+b,d0.Uy.length+k)]) (I++[d0.UD.length+y]) ls vs tv N)(a:∀v∈tv.take k,v∈vs.take b) :
  bz [kw 125] d (fun f=>nt z d0 f c I ls (vs.take b) (tv.take k) (Bl y (d0.UD.length+N.length) N)):=by
 refine(Gl h.idle (d0.Uv.length+b,d0.Uy.length+k) (by rw[h.blk];simp)).mono ?_;rintro f rfl;obtain⟨M,g,j⟩:=h.UD;have e:dS d (d0.Uv.length+b,d0.Uy.length+k)={ cL d d.blocks.dropLast (d0.Uv.length+b,d0.Uy.length+k) with rbl:=d.rbl.dropLast,UD:=cH d.UD (d0.UD.length+y) }:=by
  unfold dS;rw[h.rbl];simp
 rw[e];refine⟨⟨h.idle.kind,h.idle.syms,h.idle.prf,h.idle.pr⟩,?_,?_,h.lab,h.con,h.var,?_,?_,⟨Bl y (d0.UD.length+M.length) M,?_,?_⟩,fun q=>h.nol (fun e=>q (by rw[e];rfl)),a⟩
 ·show d.blocks.dropLast=_;rw[h.blk];simp
 ·show d.rbl.dropLast=_;rw[h.rbl];simp
 ·show d.Uv.take (d0.Uv.length+b)=_;rw[h.act,Tp,Sx]
 ·show d.Uy.take (d0.Uy.length+k)=_;rw[h.typ,Tp,Sx]
 ·show cH d.UD _=_;rw[g,Bo]
 ·unfold Bl;rw[<-j,Qh];apply Q9;intro i;rw[Qt,RO,RO,Qt];cases M[i]? with
  | none=>rfl
  | some s =>
   simp only[Option.map_some];split
   ·rw[Ey]
   ·rfl
theorem nt.start(c:lB d0)(d:Nm (GR T) d0)(f:lx T z):nt z d0 d0 d0.blocks d0.rbl [] [] [] [] :=
 ⟨c,rfl,rfl,by simp,rfl,(fun a b=>by rw[show aM d0.Up (nm z a)=XM from(f.not_has d (ja a)).2.2.1]at b;cases b),by simp,by simp,⟨[],by simp,rfl⟩,fun q=>absurd rfl q,(fun v e=>by cases e)⟩
end
def na(c:UInt8)(i:Nat):List UInt8:=c :: (dy i).toList
def tQ(c:UInt8)(i:Nat):List UInt8:=102 :: c :: (dy i).toList
theorem vS(h:b<4200):jG (na 120 b)=XL:=by
 have:=(rE h).2;unfold jG na at *;rw[Ul,this];decide
theorem Ea(h:b<4200):jG (tQ 120 b)=XL:=by
 have:=(rE h).2;unfold jG tQ at *;rw[Ul,Ul,this];decide
theorem NP(a:b<4200)(c:y<4200)(h:na M b=na M y):b=y:=yH a c (Sk h).2
theorem JO(a:b<4200)(c:y<4200)(h:tQ M b=tQ M y):b=y:=yH a c (Sk (Sk h).2).2
def Ic(z:ByteArray)(ts:List ByteArray)(i:Nat):List ByteArray:=[kw 118,nm z (na 120 i),kw 46,nm z (tQ 120 i),kw 102,gD ts i,nm z (na 120 i),kw 46]
def EU(z:ByteArray)(ts:List ByteArray)(i:Nat):St:=⟨2,nm z (tQ 120 i),[gD ts i,nm z (na 120 i)],[],db,0⟩
section
variable {T z:ByteArray} {d0 d:Db} {B:List (Nat×Nat)} {R:List Nat}
theorem JH(o:lx T z)(m:Nm (GR T) d0)(b:List ByteArray)(y:∀t∈b,Wd t/\aM d0.Uo t=XL)(G:b.length<4200)(h:nt z d0 d B R [] [] [] []):∀n,n<=b.length ->
  bz ((List.range n).flatMap (Ic z b)) d (fun q=>nt z d0 q B R ((List.range n).map (tQ 120)) ((List.range n).map (na 120)) ((List.range n).map (na 120)) ((List.range n).map (EU z b))):=by
 intro n
 induction n with
 | zero=>intro _;exact bz.nil h
 | succ n A =>
  intro x;rw[QM,Q1,QA,QA,QA];refine bz.append (A (by omega)) (fun r s=>?_);have p:∀c,c∈(List.range n).map (tQ 120)->∃i,i<n/\c=tQ 120 i:=fun c a=>by
   obtain⟨i,g,rfl⟩:=Qu.1 a;exact⟨i,Qe.1 g,rfl⟩
  have C:∀c,c∈(List.range n).map (na 120)->∃i,i<n/\c=na 120 i:=fun c a=>by
   obtain⟨i,g,rfl⟩:=Qu.1 a;exact⟨i,Qe.1 g,rfl⟩
  have j:na 120 n∉(List.range n).map (na 120):=fun a=>by
   obtain⟨i,g,e⟩:=C _ a;have:=NP (by omega) (by omega) e;omega
  have k:tQ 120 n∉(List.range n).map (tQ 120):=fun a=>by
   obtain⟨i,g,e⟩:=p _ a;have:=JO (by omega) (by omega) e;omega
  have l:na 120 n∉(List.range n).map (tQ 120):=fun a=>by
   obtain⟨i,g,e⟩:=p _ a;have:=(Sk e).1;exact absurd this (by decide)
  have w:gD b n∈b:=by
   unfold gD;rw[PK,PJ (by omega:n<b.length)];exact PT _
  obtain⟨D,E⟩:=y _ w;rw[R4];show bz ([kw 118,nm z (na 120 n),kw 46]++(nm z (tQ 120 n) :: kw 102 :: ([gD b n,nm z (na 120 n)]++[kw 46]))) r _;refine bz.append (s.v o m (vS (by omega)) l j (P0 rfl)) (fun F u=>?_);exact u.f o m (Ea (by omega)) (vS (by omega)) k (by refine⟨?_,?_⟩ <;> (show(102:UInt8)≠_;decide)) (by simp) j D E
def Nh(z:ByteArray)(ts:List ByteArray)(g ws:List ByteArray):List ByteArray:=(List.range ts.length).flatMap (Ic z ts)++((nm z [110] :: kw 112 :: (g++kw 61 :: (ws++[kw 46])))++[kw 125])
structure Kz(l L:List St)(z:ByteArray)(ts g ws:List ByteArray):Prop where
 pre:∃M,L=l++M
 len:L.length=l.length+ts.length+1
 flt:∀i,i<ts.length->∃p,L[l.length+i]?=XK ⟨2,nm z (tQ 120 i),[gD ts i,nm z (na 120 i)],[],p,L.length⟩
 thm:∃p ps,ps.map (·.1)=ws/\L[l.length+ts.length]?=XK ⟨5,nm z [110],g,ps,p,0⟩
theorem sd{s u:St}(h:oA s=u):s.kind=u.kind/\s.label=u.label/\s.Um=u.Um/\s.Ux.map (·.1)=u.Ux.map (·.1)/\s.til=u.til:=by
 subst h;refine⟨rfl,rfl,rfl,?_,rfl⟩;show _=(s.Ux.map _).map _;rw[R2];rfl
theorem EC(E:lx T z)(J:dV T)(V:d0=(aJ T).2)(b:List ByteArray)(X:∀H∈b,Wd H/\aM d0.Uo H=XL)(W:b.length<4200)(D:Wd H)(C:aM d0.Uo H=XL)(hy:∀y∈S,Nd d0 z ((List.range b.length).map (na 120)) y)(Z:∀y∈k,Wd y) :
  bz (kw 123 :: Nh z b (H :: S) k) d0 (fun F=>de F=XM/\Kz d0.UD F.UD z b (H :: S) k):=by
 obtain⟨f,K⟩:=J.idle;have w:=mF T J.size;rw[<-V]at f K w;have P:=nt.start f w E;refine bz.append (a:=[kw 123]) P.op (fun d1 g=>?_);simp only[List.length_nil,Nat.add_zero]at g;refine bz.append (JH E w b X W g b.length (PQ _)) (fun d2 c=>?_);have B:([110]:List UInt8)∉(List.range b.length).map (tQ 120):=fun U=>by
  obtain⟨i,-,e⟩:=Qu.1 U;exact absurd (Sk e).1 (by decide)
 refine bz.append (c.p E w (by decide) B (by decide) D C hy Z) (fun N Q=>?_);have R:nt z d0 N (d0.blocks++[(d0.Uv.length+0,d0.Uy.length+0)]) (d0.rbl++[d0.UD.length+0]) _ _ _ _:=Q;refine(R.cl (fun v Y=>by simp at Y)).mono ?_;intro d4 A;refine⟨?_,?_⟩
 ·unfold de;rw[A.idle.kind,A.blk,K];rfl
 ·obtain⟨M,u,I⟩:=A.UD;have d:M.length=b.length+1:=by
   have:=congrArg List.length I;rw[Qh]at this;rw[this];simp[Bl]
  have j:∀i,i<b.length+1->∃s,M[i]?=XK s/\oA s=dE (d0.UD.length+b.length+1) (((List.range b.length).map (EU z b)++[(⟨5,nm z [110],H :: S,k.map (fun x=>(x,db)),db,0⟩:St)]).getD i dJ):=fun i f=>by
   have r:i<M.length:=(by omega);refine⟨M[i],PJ r,?_⟩;have e:=congrArg (fun L=>L[i]?) I;simp only[List.getElem?_map,List.getElem?_eq_getElem r,Option.map_some,Bl,List.getElem?_mapIdx]at e;have t:i<((List.range b.length).map (EU z b)++[(⟨5,nm z [110],H :: S,k.map (fun x=>(x,db)),db,0⟩:St)]).length:=by simpa using f
   rw[PJ t,Rd,PZ (Qx _)]at e;rw[PK,PJ t];have e:=Qz e;rw[e];congr 1;simp;omega
  refine⟨⟨M,u⟩,by rw[u,Qa,d];omega,fun i f=>?_,?_⟩
  ·obtain⟨s,g,c⟩:=j i (by omega);rw[PK,PR (by simpa using f),Qt,Sw f]at c;have c:oA s=dE (d0.UD.length+b.length+1) (EU z b i):=c;rw[show dE (d0.UD.length+b.length+1) (EU z b i)={ EU z b i with til:=d0.UD.length+b.length+1 } from rfl]at c;obtain⟨l,m,n,o,q⟩:=sd c;have G:s.Ux=[]:=by
    have:s.Ux.map (·.1)=[]:=o;simpa using this
   clear o c;refine⟨s.fin,?_⟩;rw[u,Qb (by omega),show d0.UD.length+i-d0.UD.length=i by omega,g,Qa,d];obtain⟨ac,la,sy,pr,O,ti⟩:=s;simp only at l m n q G;subst l m n q G;rfl
  ·obtain⟨s,g,c⟩:=j b.length (by omega);rw[PK,Qb (by simp)]at c;have c:oA s=dE (d0.UD.length+b.length+1) ⟨5,nm z [110],H :: S,k.map (fun x=>(x,db)),db,0⟩:=by
    simpa using c
   rw[show dE (d0.UD.length+b.length+1) (⟨5,nm z [110],H :: S,k.map (fun x=>(x,db)),db,0⟩:St)=⟨5,nm z [110],H :: S,k.map (fun x=>(x,db)),db,0⟩ from rfl]at c;obtain⟨l,m,n,o,q⟩:=sd c;refine⟨s.fin,s.Ux,?_,?_⟩
   ·rw[o]
    show(k.map _).map _=k
    rw[R2];exact List.map_id' k
   ·rw[u,Qb (by omega),show d0.UD.length+b.length-d0.UD.length=b.length by omega,g];obtain⟨ac,la,sy,pr,O,ti⟩:=s;clear c o;simp only at l m n q;subst l m n q;rfl
end
structure PE where
 mod:Nat
 syms:List ByteArray
 weight:List Int
 codes:List ByteArray
 masks:List Int
 lin:List ByteArray
def qT(c:Int)(n:Nat):Nat:=((if c<0 then -(c+1) else c).tmod n).toNat
theorem Je(h:0<n):qT x n<n:=by
 unfold qT;have a:0<=(if x<0 then -(x+1) else x):=by split <;> omega
 have b:=Ue (n:Int) a;have c:=Tx (if x<0 then -(x+1) else x) (show(0:Int)<n by omega);omega
theorem Eb(j:Hd)(L:List ByteArray)(x:ByteArray)(w:XP)(v:cE w j L)(H:L.length<=1073741824) :
  XO prog 25 #[Xz j.ao L.length j.cap,Xy x] w fun e B=>e=XH (Xx XF (eT (aZ L x)))/\B=w:=by
 obtain⟨l,c⟩:∃l,XN (j.ao=l):=⟨_,rfl⟩
 rw[c.out];go_enter func25,ntmps25;go_wp2
 go_loopg [5] L.length (fun g i wr=>∃k:Nat,k<=L.length/\g=L.length-k/\i=Xx XF k/\XN (∀i,i<k->((L.getD i ⟨#[]⟩).toList==x.toList)=XM)/\wr=w)
 case atStart=>exact⟨0,by omega,by omega,rfl,fun i q=>by omega,rfl⟩
 case round =>
  obtain⟨k,G,F,rfl,a,rfl⟩:=hrel;by_cases b:k<L.length
  ·rcases v with z | ⟨g,d,s,t,u,n,o,D,E⟩
   ·rw[z]at b;simp at b
   ·have C:XI wr ⟨g,d+k,XJ⟩=XK (Xy L[k]):=(by rw[ab n];exact o k L[k] (PJ b));obtain rfl:l=XK ⟨g,d,XJ⟩:=c.out.symm.trans u;have f:XN _:=i7 L k b;have A:=ae n;generalize L[k]=y at *;clear n o;cases p:(y.toList==x.toList)
    ·have r:XN (∀i,i<k+1->((L.getD i ⟨#[]⟩).toList==x.toList)=XM):=by
      intro i q;by_cases e:i=k
      ·subst e;rw[f.out];exact p
      ·exact a.out i (by omega)
     clear f;go_wp2;go_roundg (L.length-(k+1))
     case measure=>omega
     case rel=>exact⟨k+1,by omega,rfl,by go_num,r,rfl⟩
    ·have m:XN (aZ L x=XK k):=dN b (by rw[f.out];exact p) a.out;clear f;go_wp2;go_ret;exact⟨ay (by rw[m.out];rfl),rfl⟩
  ·have m:XN (aZ L x=XJ):=eJ (fun i q=>a.out i (by omega));go_wp2;go_ret;exact⟨ay (by rw[m.out];rfl),rfl⟩
theorem LN(w:XP)(j:-9223372036854775808<=x/\x<=9223372036854775807)(k:1<=n/\n<=1073741824) :
  XO prog 20 #[Xx XF x,Xx XF n] w fun e i=>e=XH (Xx XF (qT x n:Nat))/\i=w:=by
 have d:(1:Int)<=(n:Int):=by omega
 have f:(n:Int)<=1073741824:=by omega
 have g:((n:Int)==0)=XM:=Qi.2 (by omega);by_cases c:x<0
 ·have b:0<=(-(x+1)).tmod n/\(-(x+1)).tmod n<n:=⟨Ue _ (by omega),Tx _ (by omega)⟩
  have a:XN ((-(x+1)).tmod n=((qT x n:Nat):Int)):=by show _=_;unfold qT;rw[PZ c];omega
  clear b;go_enter func20,ntmps20;go_wp2
  all_goals go_ret
  all_goals exact⟨ay (by rw[<-Int.neg_tmod];exact a.out),rfl⟩
 ·have b:0<=x.tmod n/\x.tmod n<n:=⟨Ue _ (by omega),Tx _ (by omega)⟩
  have a:XN (x.tmod n=((qT x n:Nat):Int)):=by show _=_;unfold qT;rw[PV c];omega
  clear b;go_enter func20,ntmps20;go_wp2
  all_goals go_ret
  all_goals exact⟨ay (by rw[<-Int.tmod_eq_emod_of_nonneg (by omega)];exact a.out),rfl⟩
theorem LL{l:List Int}(h:aE a D (fN l))(i:b<l.length):∃g,D.ao=XK ⟨g,0,XJ⟩/\g<a.heap.size/\XI a ⟨g,b,XJ⟩=XK (Xx XF l[b])/\l.length<=D.cap:=by
 rcases h.UC with ⟨-,e,-⟩ | ⟨g,d,c,j,f,-⟩
 ·have e:l.length=0:=e;omega
 ·exact⟨g,c,h.lt (by unfold Hd.blk;rw[c];rfl),h.cell c b _ (by simp[fN,i]),f⟩
theorem mD{r:fe}(o:aE a D r)(i:0<r.n):∃g,D.ao=XK ⟨g,0,XJ⟩/\g<a.heap.size/\r.n<=D.cap:=by
 rcases o.UC with ⟨_,f,_⟩ | ⟨g,b,c,d,e,-⟩
 ·omega
 ·exact⟨g,c,ae d,e⟩
def pV(w:XP)(ao:Option Addr)(L:List Nat):Prop:=∀(k n:Nat),L[k]?=XK n->∃g,ao=XK ⟨g,0,XJ⟩/\g<w.heap.size/\XI w ⟨g,k,XJ⟩=XK (Xx XF n)
theorem pV.Ur(h:pV a m I)(k:aa [] a g):pV g m I:=by
 intro j x f;obtain⟨b,e,c,d⟩:=h j x f;exact⟨b,e,PY c k.size,by rw[Qy (k.block b c (by simp))];exact d⟩
theorem IJ:(prog.info? 3).map (fun i=>(i.zero,i.size,i.bytes))=XK (XK (Xx XF 0),1,8):=by kernel_rfl
def xr{α:Type}(e s:Nat)(f:α->List XQ)(L:List α):fe:=⟨e,s,L.length,L.flatMap f⟩
theorem L8{α:Type}{f:α->List XQ}(d:∀x,(f x).length=b)(L:List α)(j:Nat)(t:α)(h:L[j]?=XK t)(c:Nat)(g:c<b):(L.flatMap f)[j*b+c]?=(f t)[c]?:=by
 induction L generalizing j with
 | nil=>cases h
 | cons a L e =>
  rw[QH];cases j with
  | zero =>
   simp at h;subst h;rw[PR (by rw[d];omega)];simp
  | succ j =>
   rw[Qb (by rw[d,Nat.succ_mul];omega),show(j+1)*b+c-(f a).length=j*b+c by rw[d,Nat.succ_mul];omega];exact e j (by simpa using h)
theorem Ga{α:Type}(s:Nat)(f:α->List XQ)(L:List α)(x:α):(⟨(xr n s f L).e,(xr n s f L).size,(xr n s f L).n+1,(xr n s f L).xs++f x⟩:fe)=xr n s f (L++[x]):=by
 simp[xr]
def ot{α:Type}(w:XP)(ao:Option Addr)(s:Nat)(f:α->List XQ)(L:List α):Prop:=∀(k:Nat) (x:α),L[k]?=XK x->∃g,ao=XK ⟨g,0,XJ⟩/\g<w.heap.size/\∀(c:Nat) (u:XQ),(f x)[c]?=XK u->XI w ⟨g,k*s+c,XJ⟩=XK u
theorem ot.Ur{α:Type}{f:α->List XQ}{L:List α}(h:ot a m b f L)(k:aa [] a g):ot g m b f L:=by
 intro j x n;obtain⟨d,e,i,l⟩:=h j x n;exact⟨d,e,PY i k.size,fun c u o=>by rw[Qy (k.block d i (by simp))];exact l c u o⟩
theorem aE.srcG{α:Type}{f:α->List XQ}{L:List α}(o:aE a D (xr b y f L))(i:∀x,(f x).length=y):ot a D.ao y f L:=by
 intro k x e;have n:=(Qc.1 e).1;obtain⟨g,d,m,-⟩:=mD o (show 0<L.length by omega);refine⟨g,d,m,fun c u j=>o.cell d (k*y+c) u ?_⟩;have l:c<y:=by rw[<-i x];exact(Qc.1 j).1
 show(L.flatMap f)[k*y+c]?=XK u
 rw[L8 i L k x e c l];exact j
theorem Fq:madeCells (Xx XF 0).cells (n*1)=(fV (List.replicate n 0)).toArray:=by
 rw[Th];apply Array.ext
 ·rw[QV];simp[fV]
 ·intro i a b;have e:(Xx XF 0).cells=#[Xx XF 0]:=rfl;simp[madeCells,e,Nat.mod_one,fV]
def Oe(w:XP)(g:Nat)(L:List Nat):Prop:=w.heap[g]?=XK (XE (fV L).toArray 3)
def ug(vs:List ByteArray):Prop:=∀i j,i<j->j<vs.length->((vs.getD i ⟨#[]⟩).toList==(vs.getD j ⟨#[]⟩).toList)=XM
theorem ug.ne(h:ug S){i j:Nat}(b:i<S.length)(c:j<S.length)(d:i≠j):((S.getD i ⟨#[]⟩).toList==(S.getD j ⟨#[]⟩).toList)=XM:=by
 rcases Nat.lt_or_gt_of_ne d with a | a
 ·exact h i j a c
 ·have:=h j i a b;rw[Qi]at this ⊢;exact fun e=>this e.symm
theorem qj(h:ug S)(a:b<S.length)(x:ByteArray):aZ S x=XK b ↔ ((S.getD b ⟨#[]⟩).toList==x.toList)=XL:=by
 unfold aZ;constructor
 ·intro e;have:=Rp e;simpa using this
 ·intro e;rw[List.find?_eq_some_iff_getElem];refine⟨e,b,by rw[TG];exact a,by rw[Ty],fun j f=>?_⟩;rw[Ty];have:=h.ne (i:=j) (j:=b) (by omega) a (by omega);simp only[Bool.not_eq_true',beq_eq_false_iff_ne];rw[Qi]at this;intro c;have d:(S.getD b ⟨#[]⟩).toList=x.toList:=by simpa using e
  exact this (c.trans d.symm)
section
variable {d:Db}
def vr(s:St):ByteArray:=s.Um.getD 1 ⟨#[]⟩
structure N6(d:Db):Prop where
 fl:∀(n:Nat) (s:St),d.UD[n]?=XK s->s.kind=2->s.Um.length=2
 ds:∀(n m:Nat) (s u:St),d.UD[n]?=XK s->d.UD[m]?=XK u->s.kind=2->u.kind=2->n<m->(s.til=0∨m<s.til)->((vr s).toList==(vr u).toList)=XM
 op:d.kind=2->2<=d.Um.length->aM d.Uy (d.Um.getD 1 ⟨#[]⟩)=XM/\d.Um.length=2
theorem N6.vsd(F:N6 d):ug (bt d.UD (al d.UD b)):=by
 have E:(al d.UD b).Pairwise (fun n m=>n<m/\n∈al d.UD b/\m∈al d.UD b):=by
  have h:(al d.UD b).Pairwise (· < ·):=List.Pairwise.filter _ List.pairwise_lt_range;exact h.imp_of_mem (fun z A B=>⟨B,z,A⟩)
 have G:(bt d.UD (al d.UD b)).Pairwise (fun x y=>(x.toList==y.toList)=XM):=by
  unfold bt;refine List.Pairwise.filterMap _ (fun n m h x a y H=>?_) E;obtain⟨r,o,D⟩:=h;have l:∀n x,n∈al d.UD b->eK d.UD n=XK x->∃s,d.UD[n]?=XK s/\s.kind=2/\x=vr s/\bZ d.UD n b=XL:=fun n x o a=>by
   unfold eK at a;cases g:d.UD[n]? with
   | none=>rw[g]at a;cases a
   | some s =>
    rw[g]at a;simp only at a;split at a
    ·next k =>
     have w:s.kind=2:=(by simpa using k);have C:=To (F.fl n s g w).symm;have e:ak s=vr s:=(by unfold ak vr;rw[PZ ⟨k,C⟩]);refine⟨s,rfl,w,by rw[<-e];cases a;rfl,?_⟩;unfold al cI at o;have:=(QL.1 o).2;unfold d9 at this;rw[g]at this;simp only[Bool.and_eq_true]at this;exact this.1
    ·cases a
  obtain⟨s,g,I,rfl,c⟩:=l n x o a;obtain⟨u,v,J,rfl,f⟩:=l m y D H;refine F.ds n m s u g v I J r ?_;unfold bZ at c f;rw[g]at c;rw[v]at f;simp only[Bool.and_eq_true,Bool.or_eq_true,decide_eq_true_eq]at c f;rcases c.2 with q | q
  ·left;simpa using q
  ·right;have:=f.1;omega
 intro i j p t;have:=TA.1 G i j (by omega) t p;rw[PK,PK,PJ t,PJ (by omega)];exact this
end
def O3(L:List ByteArray)(c:Int)(w:XP)(e:Ending)(w':XP):Prop:=∃bo,e=XH (XD #[Xz (O8 bo) L.length L.length,Xx XF c])/\yd w' bo L/\(∀b,bo=XK b->w.heap.size<=b)/\aa [] w w'
theorem Ab(L M:List ByteArray):(⟨(au L).e,(au L).size,(au L).n+M.length,(au L).xs++strs M⟩:fe)=au (L++M):=by
 simp[au,strs]
end Go.Proofs.YtnbalopedcgpcaaGreat

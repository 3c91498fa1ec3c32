import Derived.Test.YtnbhnocdhbcbcaaGreatU04
namespace Go.Proofs.YtnbhnocdhbcbcaaGreat
open Go.RowKit Tryz
open Value IntKind Ending
set_option maxHeartbeats 0
variable{k:Db}{a g:Nat}{o:World}{L m:List Value}{D:Nat->Hd}(T:Fs)(f n l:Nat)(S x:List Value)(I:List Bool)(w:Db)(H:Nat->Hd)(y b:Xs)(v d:Int)(i:World)(s:Nat)(z0:Pl)
def jH(d:Db)(x:Xs):Int:=if aJ d.Yl x=false then 18 else if aJ d.Yc x=true then 19 else 0
def jI(d:Db)(x:Xs):Int:=if aJ d.Ye x=false then 17 else 0
def gi(d:Db)(x:Xs):Int:=if 1<d.Yc.length then 16 else if aJ d.Yl x=false then 18 else if aJ d.Yo x=true then 20 else 0
def f9(d:Db)(x:Xs):Int:=if aJ d.Ye x=true then 0 else if aJ d.Yl x=false then 21 else if aJ d.Yo x=false then 22 else 0
def bi(d:Db)(x:Xs):Int :=
 if(d.Yw==7)=true then(if aJ d.Yc x=true∨eD d x=true then 13 else 0)
 else if(d.Yw==8)=true then(if aJ d.Yc x=true∨ff d x=true then 13 else 0)
 else if(d.Yw==1)=true then jH d x
 else if d.Yc.length=0 then jI d x
 else if(d.Yw==2)=true then gi d x
 else f9 d x
theorem tO(h:aV i f n S x w H)(a:S.length=l)(c:gC w 1073741824) :
  Calls prog 257 #[pointer (some ⟨f,l,none⟩),string b] i fun e o=>e=returned (int i64 (jH w b))/\o=i:=by
 obtain⟨q,r,s,t,u,v,y,z,A,B,j,k,m⟩:=h.cells l a;cases d:aJ w.Yl b <;> cases g:aJ w.Yc b
 all_goals
  go_enter func257,ntmps257;go_wp2_with (first | (go_at_call 270;refine(ly f n l S x w H b _ (by exact h) a c.Yl).mono ?_;rintro e p ⟨rfl,rfl⟩) | (go_at_call 254;refine(fG (H 8) w.Yc b _ (by exact h.YF 8) c.Yc).mono ?_;rintro e p ⟨rfl,rfl⟩));go_ret;exact⟨T0 (by simp[jH,d,g]),rfl⟩
theorem tQ(h:aV i f n S x w H)(a:S.length=l)(d:gC w 1073741824) :
  Calls prog 258 #[pointer (some ⟨f,l,none⟩),string b] i fun e m=>e=returned (int i64 (jI w b))/\m=i:=by
 obtain⟨o,p,q,r,s,t,u,v,y,z,g,j,k⟩:=h.cells l a;cases c:aJ w.Ye b
 all_goals
  go_enter func258,ntmps258;go_wp2_with (first | (go_at_call 271;refine(nV f n l S x w H b _ (by exact h) a d.Ye).mono ?_;rintro e A ⟨rfl,rfl⟩));go_ret;exact⟨T0 (by simp[jI,c]),rfl⟩
theorem tP(h:aV i f n S x w H)(a:S.length=l)(c:gC w 1073741824) :
  Calls prog 259 #[pointer (some ⟨f,l,none⟩),string b] i fun e r=>e=returned (int i64 (gi w b))/\r=i:=by
 obtain⟨s,t,u,v,y,z,A,B,C,D,o,p,q⟩:=h.cells l a;have m:=c.Yc;by_cases g:1<w.Yc.length
 ·go_enter func259,ntmps259;go_wp2_with (first | (go_at_call 270;refine(ly f n l S x w H b _ (by exact h) a c.Yl).mono ?_;rintro e d ⟨rfl,rfl⟩) | (go_at_call 272;refine(oA f n l S x w H b _ (by exact h) a c.Yo).mono ?_;rintro e d ⟨rfl,rfl⟩));go_ret;exact⟨T0 (by simp[gi,g]),rfl⟩
 ·cases j:aJ w.Yl b <;> cases k:aJ w.Yo b
  all_goals
   go_enter func259,ntmps259;go_wp2_with (first | (go_at_call 270;refine(ly f n l S x w H b _ (by exact h) a c.Yl).mono ?_;rintro e d ⟨rfl,rfl⟩) | (go_at_call 272;refine(oA f n l S x w H b _ (by exact h) a c.Yo).mono ?_;rintro e d ⟨rfl,rfl⟩));go_ret;exact⟨T0 (by simp[gi,g,j,k]),rfl⟩
theorem rX(h:aV i f n S x w H)(a:S.length=l)(c:gC w 1073741824) :
  Calls prog 260 #[pointer (some ⟨f,l,none⟩),string b] i fun e q=>e=returned (int i64 (f9 w b))/\q=i:=by
 obtain⟨r,s,t,u,v,y,z,A,B,C,m,o,p⟩:=h.cells l a;cases g:aJ w.Ye b
 ·cases j:aJ w.Yl b <;> cases k:aJ w.Yo b
  all_goals
   go_enter func260,ntmps260;go_wp2_with (first | (go_at_call 271;refine(nV f n l S x w H b _ (by exact h) a c.Ye).mono ?_;rintro e d ⟨rfl,rfl⟩) | (go_at_call 270;refine(ly f n l S x w H b _ (by exact h) a c.Yl).mono ?_;rintro e d ⟨rfl,rfl⟩) | (go_at_call 272;refine(oA f n l S x w H b _ (by exact h) a c.Yo).mono ?_;rintro e d ⟨rfl,rfl⟩));go_ret;exact⟨T0 (by simp[f9,g,j,k]),rfl⟩
 ·go_enter func260,ntmps260;go_wp2_with (first | (go_at_call 271;refine(nV f n l S x w H b _ (by exact h) a c.Ye).mono ?_;rintro e d ⟨rfl,rfl⟩) | (go_at_call 270;refine(ly f n l S x w H b _ (by exact h) a c.Yl).mono ?_;rintro e d ⟨rfl,rfl⟩) | (go_at_call 272;refine(oA f n l S x w H b _ (by exact h) a c.Yo).mono ?_;rintro e d ⟨rfl,rfl⟩));go_ret;exact⟨T0 (by simp[f9,g]),rfl⟩
theorem qo(h:aV i f n S x w H)(d:S.length=l)(a:gC w 1073741824) :
  Calls prog 237 #[pointer (some ⟨f,l,none⟩),string b] i fun e y=>e=returned (int i64 (bi w b))/\y=i:=by
 obtain⟨z,A,B,C,D,E,F,G,I,J,t,u,v⟩:=h.cells l d;cases k:(w.Yw==7)
 ·cases m:(w.Yw==8)
  ·cases o:(w.Yw==1)
   ·by_cases g:w.Yc.length=0
    ·have c:Xr (bi w b=jI w b):=(by show bi w b=_;simp only[bi,k,m,o,g];simp);have r:((w.Yc.length:Int)==0)=true:=(by simp[g]);clear g;go_enter func237,ntmps237;go_wp2_with (first | (go_at_call 258;refine(tQ f n l S x w H b _ (by exact h) d a).mono ?_;rintro e j ⟨rfl,rfl⟩));go_ret;exact⟨T0 (by rw[c.o]),rfl⟩
    ·have r:((w.Yc.length:Int)==0)=false:=Uz.2 (by omega);cases s:(w.Yw==2)
     ·have c:Xr (bi w b=f9 w b):=(by show bi w b=_;simp[bi,k,m,o,s,g]);clear g;go_enter func237,ntmps237;go_wp2_with (first | (go_at_call 260;refine(rX f n l S x w H b _ (by exact h) d a).mono ?_;rintro e j ⟨rfl,rfl⟩));go_ret;exact⟨T0 (by rw[c.o]),rfl⟩
     ·have c:Xr (bi w b=gi w b):=(by show bi w b=_;simp[bi,k,m,o,s,g]);clear g;go_enter func237,ntmps237;go_wp2_with (first | (go_at_call 259;refine(tP f n l S x w H b _ (by exact h) d a).mono ?_;rintro e j ⟨rfl,rfl⟩));go_ret;exact⟨T0 (by rw[c.o]),rfl⟩
   ·have c:Xr (bi w b=jH w b):=(by show bi w b=_;simp[bi,k,m,o]);go_enter func237,ntmps237;go_wp2_with (first | (go_at_call 257;refine(tO f n l S x w H b _ (by exact h) d a).mono ?_;rintro e j ⟨rfl,rfl⟩));go_ret;exact⟨T0 (by rw[c.o]),rfl⟩
  ·cases p:aJ w.Yc b <;> cases q:ff w b
   all_goals
    go_enter func237,ntmps237;go_wp2_with (first | (go_at_call 254;refine(fG (H 8) w.Yc b _ (by exact h.YF 8) a.Yc).mono ?_;rintro e j ⟨rfl,rfl⟩) | (go_at_call 256;refine(BO f n l S x w H b _ (by exact h) d a).mono ?_;rintro e j ⟨rfl,rfl⟩));go_ret;exact⟨T0 (by simp[bi,k,m,p,q]),rfl⟩
 ·cases p:aJ w.Yc b <;> cases q:eD w b
  all_goals
   go_enter func237,ntmps237;go_wp2_with (first | (go_at_call 254;refine(fG (H 8) w.Yc b _ (by exact h.YF 8) a.Yc).mono ?_;rintro e j ⟨rfl,rfl⟩) | (go_at_call 255;refine(mH f n l S x w H b _ (by exact h) d a).mono ?_;rintro e j ⟨rfl,rfl⟩));go_ret;exact⟨T0 (by simp[bi,k,p,q]),rfl⟩
theorem gC.mono{M:Nat}(h:gC k a)(b:a<=M):gC k M :=
 ⟨Un h.Yk b,Un h.Ye b,Un h.Yf b,Un h.Yl b,Un h.Yo b,Un h.Yy b,Un h.Yt b,Un h.rbl b,Un h.Yc b,Un h.Yn b⟩
theorem aV.Yw(h:aV o a g L m k D)(c:Nat)(e:L.length=c)(b:Int) :
  Xr (aV (o.setCell ⟨a,c+8,none⟩ (int i64 b)) a g L m { k with Yw:=b } D/\aw a o D (o.setCell ⟨a,c+8,none⟩ (int i64 b)) D) :=
 h.set (d':={ k with Yw:=b }) c 8 e (Lx k D b) _ (by omega) rfl
theorem aV.lab(h:aV o a g L m k D)(c:Nat)(e:L.length=c)(b:Xs) :
  Xr (aV (o.setCell ⟨a,c+9,none⟩ (string b)) a g L m { k with Yx:=b } D/\aw a o D (o.setCell ⟨a,c+9,none⟩ (string b)) D) :=
 h.set (d':={ k with Yx:=b }) c 9 e (GF k D b) _ (by omega) rfl
theorem aV.Yg(h:aV o a g L m k D)(c:Nat)(e:L.length=c)(b:Bool) :
  Xr (aV (o.setCell ⟨a,c+11,none⟩ (bool b)) a g L m { k with Yg:=b } D/\aw a o D (o.setCell ⟨a,c+11,none⟩ (bool b)) D) :=
 h.set (d':={ k with Yg:=b }) c 11 e (Co k D b) _ (by omega) rfl
theorem aV.forget(h:aV o a g L m k D)(b:Nat)(d:L.length=b) :
  aV (o.setCell ⟨a,b+10,none⟩ (slice none 0 0)) a g L m { k with Yc:=[] } (ie D 8 ⟨none,0⟩)/\aw a o D (o.setCell ⟨a,b+10,none⟩ (slice none 0 0)) (ie D 8 ⟨none,0⟩) :=
 h.put (d':={ k with Yc:=[] }) b 10 d 8 (by omega) ⟨none,0⟩ ⟨by simp[a8,aD,dm],Us ⟨by simp[a8,aD],by simp[a8,aD]⟩⟩ (XG _ _) (Us rfl) (uC k D []) _ (by omega) (by simp[cO,ie])
theorem aV.noProof(h:aV o a g L m k D)(b:Nat)(d:L.length=b) :
  aV (o.setCell ⟨a,b+12,none⟩ (slice none 0 0)) a g L m { k with Yn:=[] } (ie D 9 ⟨none,0⟩)/\aw a o D (o.setCell ⟨a,b+12,none⟩ (slice none 0 0)) (ie D 9 ⟨none,0⟩) :=
 h.put (d':={ k with Yn:=[] }) b 12 d 9 (by omega) ⟨none,0⟩ ⟨by simp[a8,iC,oP],Us ⟨by simp[a8,iC],by simp[a8,iC]⟩⟩ (XG _ _) (Us rfl) (yS k D []) _ (by omega) (by simp[cO,ie])
def aI(d:Db)(x:Xs):Int×Db :=
 if(x.toList == [36,102])=true then(0,{ d with Yw:=2 })
 else if(x.toList == [36,101])=true then(0,{ d with Yw:=3 })
 else if(x.toList == [36,97])=true then(0,{ d with Yw:=4 })
 else if(x.toList == [36,112])=true then(0,{ d with Yw:=5 })
 else(14,d)
def cC(d:Db):Int×Db:=if d.Yc.length=0 then(15,d) else(0,{ d with Yg:=true })
def bU(d:Db)(x:Xs):Int×Db :=
 if dD x=true then(8,d) else if iB x=false then(12,d) else if eD d x=true then(13,d)
 else(0,{ d with Yk:=d.Yk++[x],Yx:=x,Yw:=6 })
def mC(d:Db)(p:Pl):Int×Db :=
 if(d.Yc.length:Int)<mV d then(15,d)
 else if(d.Yw==5)=true/\d.Yg=false then(23,d)
 else(0,{ aW d p with Yw:=0,Yx:=⟨#[]⟩,Yc:=[],Yg:=false,Yn:=[] })
def dc(d:Db)(q:Nat×Nat):Db :=
 match d.rbl.getLast? with
 | none=>dA d d.Yy.dropLast q
 | some x=>{ dA d d.Yy.dropLast q with rbl:=d.rbl.dropLast,Yt:=kL d.Yt x }
def ay(d:Db)(x:Xs):Int×Db :=
 if(x.toList == [36,123])=true then(0,{ d with Yy:=d.Yy++[(d.Yl.length,d.Yo.length)],rbl:=d.rbl++[d.Yt.length] })
 else if(x.toList == [36,125])=true then(match d.Yy.getLast? with | none=>(9,d) | some p=>(0,dc d p))
 else if(x.toList == [36,99])=true then(if 0<d.Yy.length then(10,d) else(0,{ d with Yw:=7 }))
 else if(x.toList == [36,118])=true then(0,{ d with Yw:=8 })
 else if(x.toList == [36,100])=true then(0,{ d with Yw:=1 })
 else if(x.toList == [36,102])=true∨(x.toList == [36,101])=true∨(x.toList == [36,97])=true∨(x.toList == [36,112])=true then(11,d)
 else bU d x
def aZ(d:Db)(x:Xs)(p:Pl):Int×Db :=
 if(d.Yw==0)=true then ay d x
 else if(d.Yw==6)=true then aI d x
 else if(x.toList == [36,46])=true then mC d p
 else if(x.toList == [36,61])=true/\(d.Yw==5)=true/\d.Yg=false then cC d
 else if dD x=true then(8,d)
 else if d.Yg=true then(0,{ d with Yn:=d.Yn++[(x,p)] })
 else if(bi d x==0)=true then(0,{ d with Yc:=d.Yc++[x] })
 else(bi d x,d)
set_option maxRecDepth 100000
theorem wJ(h:aV i f n S x w H)(m:S.length=l) :
  Calls prog 234 #[pointer (some ⟨f,l,none⟩),string b] i fun e q=>e=returned (int i64 (aI w b).1)/\∃p,aV q f n S x (aI w b).2 p/\aw f i H q p:=by
 obtain⟨v,y,z,A,B,C,D,E,F,G,s,t,u⟩:=h.cells l m;have r:=h.free;cases a:(b.toList == [36,102])
 ·cases d:(b.toList == [36,101])
  ·cases k:(b.toList == [36,97])
   ·cases j:(b.toList == [36,112])
    ·have c:Xr (aI w b=(14,w)):=(by show aI w b=_;simp only[aI,a,d,k,j];simp);go_enter func234,ntmps234;go_wp2;go_ret;exact⟨T0 (by rw[c.o]),H,by rw[c.o];exact h,aw.refl _ _ _⟩
    ·have c:Xr (aI w b=(0,{ w with Yw:=5 })):=(by show aI w b=_;simp only[aI,a,d,k,j];simp);have g:=h.Yw l m 5;go_enter func234,ntmps234;go_wp2;go_ret;exact⟨T0 (by rw[c.o]),H,by rw[c.o];exact g.o.1,g.o.2⟩
   ·have c:Xr (aI w b=(0,{ w with Yw:=4 })):=(by show aI w b=_;simp only[aI,a,d,k];simp);have g:=h.Yw l m 4;go_enter func234,ntmps234;go_wp2;go_ret;exact⟨T0 (by rw[c.o]),H,by rw[c.o];exact g.o.1,g.o.2⟩
  ·have c:Xr (aI w b=(0,{ w with Yw:=3 })):=(by show aI w b=_;simp only[aI,a,d];simp);have g:=h.Yw l m 3;go_enter func234,ntmps234;go_wp2;go_ret;exact⟨T0 (by rw[c.o]),H,by rw[c.o];exact g.o.1,g.o.2⟩
 ·have c:Xr (aI w b=(0,{ w with Yw:=2 })):=by show aI w b=_;simp only[aI,a];simp
  have g:=h.Yw l m 2;go_enter func234,ntmps234;go_wp2;go_ret;exact⟨T0 (by rw[c.o]),H,by rw[c.o];exact g.o.1,g.o.2⟩
theorem xu(h:aV i f n S x w H)(j:S.length=l) :
  Calls prog 236 #[pointer (some ⟨f,l,none⟩)] i fun e k=>e=returned (int i64 (cC w).1)/\∃d,aV k f n S x (cC w).2 d/\aw f i H k d:=by
 obtain⟨s,t,u,v,y,z,A,B,C,D,o,p,q⟩:=h.cells l j;have m:=h.free;by_cases b:w.Yc.length=0
 ·have a:Xr (cC w=(15,w)):=by show cC w=_;simp only[cC,b];simp
  have c:((w.Yc.length:Int)==0)=true:=by simp[b]
  clear b;go_enter func236,ntmps236;go_wp2;go_ret;exact⟨T0 (by rw[a.o]),H,by rw[a.o];exact h,aw.refl _ _ _⟩
 ·have a:Xr (cC w=(0,{ w with Yg:=true })):=by show cC w=_;simp only[cC,b];simp
  have c:((w.Yc.length:Int)==0)=false:=Uz.2 (by omega);have g:=h.Yg l j true;clear b;go_enter func236,ntmps236;go_wp2;go_ret;exact⟨T0 (by rw[a.o]),H,by rw[a.o];exact g.o.1,g.o.2⟩
theorem zS(h:aV i f n S x w H)(d:S.length=l)(k:gC w 100000000)(g:b.size<=1073741824) :
  Calls prog 251 #[pointer (some ⟨f,l,none⟩),string b] i fun e K=>e=returned (int i64 (bU w b).1)/\∃t,aV K f n S x (bU w b).2 t/\aw f i H K t:=by
 obtain⟨z,A,B,C,D,E,F,G,I,J,m,o,p⟩:=h.cells l d;have j:=h.free;cases q:dD b
 ·cases s:iB b
  ·have a:Xr (bU w b=(12,w)):=(by show bU w b=_;simp[bU,q,s]);go_enter func251,ntmps251;go_wp2_with (first | (go_at_call 232;refine(fe b _ g).mono ?_;rintro e c ⟨rfl,rfl⟩) | (go_at_call 264;refine(oy b _ g).mono ?_;rintro e c ⟨rfl,rfl⟩) | (go_at_call 255;refine(mH f n l S x w H b _ (by exact h) d (k.mono (by omega))).mono ?_;rintro e c ⟨rfl,rfl⟩));go_ret;exact⟨T0 (by rw[a.o]),H,by rw[a.o];exact h,aw.refl _ _ _⟩
  ·cases y:eD w b
   ·have a:Xr (bU w b=(0,{ w with Yk:=w.Yk++[b],Yx:=b,Yw:=6 })):=(by show bU w b=_;simp[bU,q,s,y]);have N:=k.Yk;go_enter func251,ntmps251;go_wp2_with (first | (go_at_call 232;refine(fe b _ g).mono ?_;rintro e c ⟨rfl,rfl⟩) | (go_at_call 264;refine(oy b _ g).mono ?_;rintro e c ⟨rfl,rfl⟩) | (go_at_call 255;refine(mH f n l S x w H b _ (by exact h) d (k.mono (by omega))).mono ?_;rintro e c ⟨rfl,rfl⟩));refine(Bh f n l S x w H b _ (by exact h) d (by omega)).mono ?_;rintro e P ⟨rfl,L,r,M⟩;have v:=r.lab l d b;have u:=v.o.1.Yw l d 6;clear z A B C D E F G I J m o p j;obtain⟨z,A,B,C,D,E,F,G,I,J,m,o,p⟩:=r.cells l d;have j:=r.free;go_wp2;go_ret;exact⟨T0 (by rw[a.o]),L,by rw[a.o];exact u.o.1,M.trans (v.o.2.trans u.o.2)⟩
   ·have a:Xr (bU w b=(13,w)):=(by show bU w b=_;simp[bU,q,s,y]);go_enter func251,ntmps251;go_wp2_with (first | (go_at_call 232;refine(fe b _ g).mono ?_;rintro e c ⟨rfl,rfl⟩) | (go_at_call 264;refine(oy b _ g).mono ?_;rintro e c ⟨rfl,rfl⟩) | (go_at_call 255;refine(mH f n l S x w H b _ (by exact h) d (k.mono (by omega))).mono ?_;rintro e c ⟨rfl,rfl⟩));go_ret;exact⟨T0 (by rw[a.o]),H,by rw[a.o];exact h,aw.refl _ _ _⟩
 ·have a:Xr (bU w b=(8,w)):=by show bU w b=_;simp[bU,q]
  go_enter func251,ntmps251;go_wp2_with (first | (go_at_call 232;refine(fe b _ g).mono ?_;rintro e c ⟨rfl,rfl⟩) | (go_at_call 264;refine(oy b _ g).mono ?_;rintro e c ⟨rfl,rfl⟩) | (go_at_call 255;refine(mH f n l S x w H b _ (by exact h) d (k.mono (by omega))).mono ?_;rintro e c ⟨rfl,rfl⟩));go_ret;exact⟨T0 (by rw[a.o]),H,by rw[a.o];exact h,aw.refl _ _ _⟩
theorem Kp:1<=mV w:=by unfold mV;split <;> omega
theorem Py(h:aV i f n S x w H)(a:S.length=l)(Z:gC w 10000000) :
  Calls prog 235 #[pointer (some ⟨f,l,none⟩),agg #[string b,int i64 v,int i64 d]] i fun e U=>e=returned (int i64 (mC w ⟨b,v,d⟩).1)/\∃L,aV U f n S x (mC w ⟨b,v,d⟩).2 L/\aw f i H U L:=by
 obtain⟨W,r⟩:∃W,W=i.alloc (.cells #[string b,int i64 v,int i64 d] 36):=⟨_,rfl⟩
 have K:=fg r.symm;have D:=h.Yh K;have u:Xr _:=r.symm;have B:=fE r.symm;obtain⟨p0,p1,p2⟩:=xy B;clear r B h;obtain⟨z,A,C,E,F,G,I,J,R,T,p,c,q⟩:=D.cells l a;clear z A C E F G I J T q;have k:=D.free;by_cases j:(w.Yc.length:Int)<mV w
 ·have g:Xr (mC w ⟨b,v,d⟩=(15,w)):=by show mC w ⟨b,v,d⟩=_;simp only[mC,if_pos j]
  go_enter func235,ntmps235;go_upto_region 1 with fail
  rw[u.o];go_quiet ((go_at_call 252;exact UD (vo f n l S x w H _ (D.Yh ((ae.refl [] W).drewN _)) a)));go_wp2;go_ret;exact⟨T0 (by rw[g.o]),H,by rw[g.o];exact D.Yh (bM.drewN _),(aw.refl _ _ _).Yh (K.drewN _)⟩
 ·have y:Xr (0<w.Yc.length):=by have:=Kp w;show 0<_;omega
  by_cases o:(w.Yw==5)=true/\w.Yg=false
  ·have g:Xr (mC w ⟨b,v,d⟩=(23,w)):=(by show mC w ⟨b,v,d⟩=_;simp only[mC,if_neg j,if_pos o]);obtain⟨s,X⟩:=o;rw[X]at c;go_enter func235,ntmps235;(go_upto_region 1 with fail);rw[u.o];go_quiet ((go_at_call 252;exact UD (vo f n l S x w H _ (D.Yh ((ae.refl [] W).drewN _)) a)));go_wp2;go_ret;exact⟨T0 (by rw[g.o]),H,by rw[g.o];exact D.Yh (bM.drewN _),(aw.refl _ _ _).Yh (K.drewN _)⟩
  ·have g:Xr (mC w ⟨b,v,d⟩=(0,{ aW w ⟨b,v,d⟩ with Yw:=0,Yx:=⟨#[]⟩,Yc:=[],Yg:=false,Yn:=[] })):=(by show mC w ⟨b,v,d⟩=_;simp only[mC,if_neg j,if_neg o]);have m:(w.Yw==5)=true->w.Yg=true:=by
    intro s;cases Y:w.Yg with
    | true=>rfl
    | false=>exact absurd ⟨s,Y⟩ o
   cases s:(w.Yw==5)
   all_goals
    try rw[m s]at c
    clear m;clear o;go_enter func235,ntmps235;(go_upto_region 1 with fail);rw[u.o];go_quiet ((go_at_call 252;exact UD (vo f n l S x w H _ (D.Yh ((ae.refl [] W).drewN _)) a)));go_wp2_with fail;refine(Dk f n l S x w H b v d _ (by exact D.Yh (bM.drewN _)) a y.o Z).mono ?_;rintro e w2 ⟨rfl,H2,t,V⟩;have M:=t.Yw l a 0;have N:=M.o.1.lab l a ⟨#[]⟩;have O:Xr _:=N.o.1.forget l a;have P:=O.o.1.Yg l a false;have Q:Xr _:=P.o.1.noProof l a;clear R p c k p0 p1 p2;obtain⟨z,A,C,E,F,G,I,J,R,T,p,c,q⟩:=t.cells l a;clear z A C E F G I J;have k:=t.free;go_wp2;go_ret;exact⟨T0 (by rw[g.o]),_,by rw[g.o];exact Q.o.1,(V.first (K.drewN _)).trans (M.o.2.trans (N.o.2.trans (O.o.2.trans (P.o.2.trans Q.o.2))))⟩
theorem sU{α:Type}{l:List α}{p:α}(h:l.getLast?=some p):l=l.dropLast++[p]:=by
 obtain⟨a,rfl⟩:=List.getLast?_eq_some_iff.1 h;simp
structure CT(d:Db)(N:Nat):Prop where
 Yz:∀p,p∈d.Yy->p.1<=N/\p.2<=N
 same:d.rbl.length=d.Yy.length
 recs:∀x,x∈d.rbl->x<=d.Yt.length
theorem zR(h:aV i f n S x w H)(s:S.length=l)(E:gC w 10000000)(hx:b.size<=1073741824)(J:CT w 100000000) :
  Calls prog 233 #[pointer (some ⟨f,l,none⟩),string b] i fun e U=>e=returned (int i64 (ay w b).1)/\∃P,aV U f n S x (ay w b).2 P/\aw f i H U P:=by
 have k:=E.mono (M:=100000000) (by omega);obtain⟨q0,q1,q2,q3,q4,q5,q6,q7,q8,q9,ad,af,ag⟩:=h.cells l s;have ac:=h.free;cases a:(b.toList == [36,123])
 ·cases d:(b.toList == [36,125])
  ·cases o:(b.toList == [36,99])
   ·cases j:(b.toList == [36,118])
    ·cases m:(b.toList == [36,100])
     ·cases q:(b.toList == [36,102])
      ·cases r:(b.toList == [36,101])
       ·cases v:(b.toList == [36,97])
        ·cases u:(b.toList == [36,112])
         ·have c:Xr (ay w b=bU w b):=(by show ay w b=_;simp only[ay,a,d,o,j,m,q,r,v,u];simp);go_enter func233,ntmps233;go_wp2_with fail;refine(zS f n l S x w H b _ (by exact h) s k hx).mono ?_;rintro e V ⟨rfl,G,B,C⟩;go_wp2;go_ret;exact⟨T0 (by rw[c.o]),G,by rw[c.o];exact B,C⟩
         ·have c:Xr (ay w b=(11,w)):=(by show ay w b=_;simp only[ay,a,d,o,j,m,q,r,v,u];simp);go_enter func233,ntmps233;go_wp2;go_ret;exact⟨T0 (by rw[c.o]),H,by rw[c.o];exact h,aw.refl _ _ _⟩
        ·have c:Xr (ay w b=(11,w)):=(by show ay w b=_;simp only[ay,a,d,o,j,m,q,r,v];simp);go_enter func233,ntmps233;go_wp2;go_ret;exact⟨T0 (by rw[c.o]),H,by rw[c.o];exact h,aw.refl _ _ _⟩
       ·have c:Xr (ay w b=(11,w)):=(by show ay w b=_;simp only[ay,a,d,o,j,m,q,r];simp);go_enter func233,ntmps233;go_wp2;go_ret;exact⟨T0 (by rw[c.o]),H,by rw[c.o];exact h,aw.refl _ _ _⟩
      ·have c:Xr (ay w b=(11,w)):=(by show ay w b=_;simp only[ay,a,d,o,j,m,q];simp);go_enter func233,ntmps233;go_wp2;go_ret;exact⟨T0 (by rw[c.o]),H,by rw[c.o];exact h,aw.refl _ _ _⟩
     ·have c:Xr (ay w b=(0,{ w with Yw:=1 })):=(by show ay w b=_;simp only[ay,a,d,o,j,m];simp);have t:=h.Yw l s 1;go_enter func233,ntmps233;go_wp2;go_ret;exact⟨T0 (by rw[c.o]),H,by rw[c.o];exact t.o.1,t.o.2⟩
    ·have c:Xr (ay w b=(0,{ w with Yw:=8 })):=(by show ay w b=_;simp only[ay,a,d,o,j];simp);have t:=h.Yw l s 8;go_enter func233,ntmps233;go_wp2;go_ret;exact⟨T0 (by rw[c.o]),H,by rw[c.o];exact t.o.1,t.o.2⟩
   ·by_cases g:0<w.Yy.length
    ·have c:Xr (ay w b=(10,w)):=(by show ay w b=_;simp only[ay,a,d,o,g];simp);have z:decide (0<w.Yy.length)=true:=(by simpa using g);clear g;go_enter func233,ntmps233;go_wp2_with (go_at_call 208;refine(mF f n l S x w H _ (by exact h) s).mono ?_;rintro e O ⟨rfl,rfl⟩);go_ret;exact⟨T0 (by rw[c.o]),H,by rw[c.o];exact h,aw.refl _ _ _⟩
    ·have c:Xr (ay w b=(0,{ w with Yw:=7 })):=(by show ay w b=_;simp only[ay,a,d,o,g];simp);have z:decide (0<w.Yy.length)=false:=(by simpa using g);have t:=h.Yw l s 7;clear g;go_enter func233,ntmps233;go_wp2_with (go_at_call 208;refine(mF f n l S x w H _ (by exact h) s).mono ?_;rintro e O ⟨rfl,rfl⟩);go_ret;exact⟨T0 (by rw[c.o]),H,by rw[c.o];exact t.o.1,t.o.2⟩
  ·rcases hbb:w.Yy.getLast? with _ | p
   ·have g:w.Yy=[]:=(by simpa using hbb);have c:Xr (ay w b=(9,w)):=(by show ay w b=_;simp only[ay,a,d,hbb];simp);have z:decide (0<w.Yy.length)=false:=(by rw[g];rfl);clear hbb g;go_enter func233,ntmps233;go_wp2_with (go_at_call 208;refine(mF f n l S x w H _ (by exact h) s).mono ?_;rintro e O ⟨rfl,rfl⟩);go_ret;exact⟨T0 (by rw[c.o]),H,by rw[c.o];exact h,aw.refl _ _ _⟩
   ·have g:w.Yy=w.Yy.dropLast++[p]:=sU hbb;have c:Xr (ay w b=(0,dc w p)):=(by show ay w b=_;simp only[ay,a,d,hbb];simp);have z:decide (0<w.Yy.length)=true:=(by rw[g];simp);have X:Xr (w.Yy=w.Yy.dropLast++[p]):=g;have hp:=J.Yz p (by rw[g];simp);have D:w.rbl≠[]:=(by intro e;have:=J.same;rw[e,g]at this;simp at this);obtain⟨y,K⟩:∃y,w.rbl.getLast?=some y:=⟨_,We D⟩
    have Q:Xr (w.rbl=w.rbl.dropLast++[y]):=sU K;have L:=J.recs y (by rw[Q.o];simp);have Y:Xr (dc w p={ dA w w.Yy.dropLast p with rbl:=w.rbl.dropLast,Yt:=kL w.Yt y }):=(by show dc w p=_;unfold dc;rw[K]);have A:Xr (gC (dA w w.Yy.dropLast p) 100000000):=⟨k.Yk,k.Ye,k.Yf,by have:=k.Yl;simp only[dA,List.length_take];omega,by have:=k.Yo;simp only[dA,List.length_take];omega,by have:=k.Yy;simp only[dA,List.length_dropLast];omega,k.Yt,k.rbl,k.Yc,k.Yn⟩;clear hbb g D K;go_enter func233,ntmps233;go_wp2_with (go_at_call 208;refine(mF f n l S x w H _ (by exact h) s).mono ?_;rintro e O ⟨rfl,rfl⟩);refine(Bz f n l S x w H w.Yy.dropLast p _ (by exact h) s X.o (k.mono (by omega)) ⟨by omega,by omega⟩).mono ?_;rintro e V ⟨rfl,B,C⟩;go_wp2_with fail;refine(GA f n l S x (dA w w.Yy.dropLast p) H w.rbl.dropLast y _ (by exact B) s Q.o A.o L).mono ?_;rintro e w3 ⟨rfl,F,I⟩;go_wp2;go_ret;exact⟨T0 (by rw[c.o]),H,by rw[c.o,Y.o];exact F,C.trans I⟩
 ·have c:Xr (ay w b=(0,{ w with Yy:=w.Yy++[(w.Yl.length,w.Yo.length)],rbl:=w.rbl++[w.Yt.length] })):=by show ay w b=_;simp only[ay,a];simp
  have Z:=k.Yy;have A:Xr (gC { w with Yy:=w.Yy++[(w.Yl.length,w.Yo.length)] } 100000000):=⟨k.Yk,k.Ye,k.Yf,k.Yl,k.Yo,by have:=E.Yy;simp;omega,k.Yt,k.rbl,k.Yc,k.Yn⟩;go_enter func233,ntmps233;go_wp2_with fail;refine(xt f n l S x w H _ (by exact h) s (by omega)).mono ?_;rintro e V ⟨rfl,G,B,C⟩;go_wp2_with fail;refine(Cn f n l S x { w with Yy:=w.Yy++[(w.Yl.length,w.Yo.length)] } G _ (by exact B) s A.o).mono ?_;rintro e w3 ⟨rfl,W,F,I⟩;go_wp2;go_ret;exact⟨T0 (by rw[c.o]),W,by rw[c.o];exact F,C.trans I⟩
theorem J2(h:(b.toList == [36,61])=true):dD b=true:=by
 have:b=⟨#[36,61]⟩:=JV (by rw[ByteArray.toList_mk [36,61]];simpa using h);rw[this];decide +kernel
theorem Lu(l:List (Xs×Pl))(p:Xs×Pl):(⟨(iC l).e,(iC l).size,(iC l).n+1,(iC l).xs++sD p⟩:ew)=iC (l++[p]):=by
 simp[iC,oP]
def i9(b t o:Nat)(pre post:List Value)(d:Db)(H:Nat->Hd)(x f:Xs)(l c:Int)(w:World):Prop :=
 Calls prog 207 #[pointer (some ⟨b,o,none⟩),string x,agg #[string f,int i64 l,int i64 c]] w fun e w'=>e=returned (int i64 (aZ d x ⟨f,l,c⟩).1)/\∃H',aV w' b t pre post (aZ d x ⟨f,l,c⟩).2 H'/\aw b w H w' H'
theorem boxed(h:aV o a g L m k D)(f:Xs)(l c:Int) :
  ∃W,Xr (o.alloc (.cells #[string f,int i64 l,int i64 c] 36)=W)/\ae [] o W/\aV W a g L m k D/\W.cell? ⟨o.heap.size,0,none⟩=some (string f)/\W.cell? ⟨o.heap.size,1,none⟩=some (int i64 l)/\W.cell? ⟨o.heap.size,2,none⟩=some (int i64 c):=by
 have B:(o.alloc (.cells #[string f,int i64 l,int i64 c] 36)).heap[o.heap.size]?=some (.cells #[string f,int i64 l,int i64 c] 36):=Ui _ _;refine⟨_,rfl,bM.alloc _,h.Yh (bM.alloc _),?_,?_,?_⟩ <;> rw[ah B] <;> rfl
theorem EM(h:aV i f n S x w H)(A:S.length=l)(r:gC w 10000000)(Z:y.size<=1073741824)(P:(w.Yw==0)=false)(k1:(w.Yw==6)=false)(o:(y.toList == [36,46])=false)(p:(y.toList == [36,61])=false)(V:dD y=false)(J:w.Yg=false) :
  i9 f n l S x w H y b v d i:=by
 unfold i9;have X:=r.mono (M:=1073741824) (by omega);obtain⟨W,U,K,D,p0,p1,p2⟩:=boxed h b v d;clear h;obtain⟨q0,q1,q2,q3,q4,q5,q6,q7,q8,q9,Q,t,R⟩:=D.cells l A;clear q0 q1 q2 q3 q4 q5 q6 q7 q9 R;have G:=D.free;rw[J]at t;cases E:(bi w y==0)
 ·have k:Xr (aZ w y ⟨b,v,d⟩=(bi w y,w)):=by show aZ w y ⟨b,v,d⟩=_;simp[aZ,P,k1,o,p,V,J,E]
  go_enter func207,ntmps207;go_upto_region 1 with fail
  rw[U.o];go_wp2_with (first | (go_at_call 232;refine(fe y _ Z).mono ?_;rintro e B ⟨rfl,rfl⟩) | (go_at_call 237;refine(qo f n l S x w H y _ (by exact D) A X).mono ?_;rintro e B ⟨rfl,rfl⟩));go_ret;exact⟨T0 (by rw[k.o]),H,by rw[k.o];exact D,(aw.refl _ _ _).Yh K⟩
 ·have k:Xr (aZ w y ⟨b,v,d⟩=(0,{ w with Yc:=w.Yc++[y] })):=by show aZ w y ⟨b,v,d⟩=_;simp[aZ,P,k1,o,p,V,J,E]
  have F:Xr (bi w y=0):=(show bi w y=0 by simpa using E);have ad:=r.Yc;obtain⟨i0,I,L,N,O⟩:=UC jN;have C:=D.Yh ((ae.refl [] W).alloc (.cells #[string y] 9));have c:=C.YF 8;have ac:=D.lt;go_enter func207,ntmps207;go_upto_region 1 with fail
  rw[U.o];go_wp2_with (first | (go_at_call 232;refine(fe y _ Z).mono ?_;rintro e B ⟨rfl,rfl⟩) | (go_at_call 237;refine(qo f n l S x w H y _ (by exact D) A X).mono ?_;rintro e B ⟨rfl,rfl⟩) | (at_builtin;refine aN _ rfl (.tmp 74) (.tmp 76) 61 rfl i0 (string ⟨#[]⟩) 16 (H 8) (aD w.Yc) underlying61 I L N O rfl UA rfl (by exact c) ⟨_,0,none⟩ 1 1 [string y] rfl rfl ?c1 ?c2 UA ?c3 ?c4 ?_))
  case c1=>intro j u z;match j,z with | 0,z=>simp at z;subst z;simp[Addr.add]
  case c2=>intro u Y;simp at Y;subst Y;rfl
  case c3=>simp only[aD];unfold maxLen;omega
  case c4=>simp only[aD];omega
  intro g m B s q a;obtain⟨P,f0,T⟩:=C.app (d':={ w with Yc:=w.Yc++[y] }) l 10 A 8 (by omega) g m ((aD w.Yc).n+1) _ s (eI w.Yc y) q (by simpa using a) (uC w H _) (by omega) _ rfl (by simp[cO,ie,aD]);clear C c q8 Q t s q a G;go_wp2;go_ret;exact⟨T0 (by rw[k.o,F.o]),_,by rw[k.o];exact T.o.1,T.o.2.first (K.alloc _)⟩
theorem zT(h:aV i f n S x w H)(G:S.length=l)(r:gC w 10000000)(U:y.size<=1073741824)(X:(w.Yw==0)=false)(Y:(w.Yw==6)=false)(o:(y.toList == [36,46])=false)(p:(y.toList == [36,61])=false)(O:dD y=false)(I:w.Yg=true) :
  i9 f n l S x w H y b v d i:=by
 unfold i9;obtain⟨W,L,K,D,p0,p1,p2⟩:=boxed h b v d;clear h;obtain⟨Z,q1,q2,q3,q4,q5,q6,q7,q8,q9,A,B,ac⟩:=D.cells l G;clear Z q1 q2 q3 q4 q5 q6 q7 q9 A;have P:=D.free;rw[I]at B;have E:Xr (aZ w y ⟨b,v,d⟩=(0,{ w with Yn:=w.Yn++[(y,⟨b,v,d⟩)] })):=by show aZ w y ⟨b,v,d⟩=_;simp[aZ,X,Y,o,p,O,I]
 have T:=r.Yn;obtain⟨V,q,s,t,z⟩:=UC Rg;have N:=D.lt;have F:Xr (aV (W.alloc (.cells #[string y,string b,int i64 v,int i64 d] 229)).drew f n S x w H):=D.Yh ((ae.refl [] W).alloc _).drew;have s2:Xr (∀j u,(sD (y,⟨b,v,d⟩))[j]?=some u->(W.alloc (.cells #[string y,string b,int i64 v,int i64 d] 229)).drew.cell? ((⟨W.heap.size,0,none⟩:Addr).add j)=some u):=by
  intro j u Q;have R:(W.alloc (.cells #[string y,string b,int i64 v,int i64 d] 229)).drew.heap[W.heap.size]?=some (.cells #[string y,string b,int i64 v,int i64 d] 229):=Ui _ _;rw[bS,ah R];simpa [sD] using Q
 have s3:Xr (∀u∈sD (y,⟨b,v,d⟩),u.oneCell'=true):=by
  intro u J;simp only[sD,List.mem_cons,List.not_mem_nil,or_false]at J;rcases J with rfl | rfl | rfl | rfl <;> rfl
 have s4:Xr ((iC w.Yn).n+1<=maxLen):=by show _<=_;simp only[iC];unfold maxLen;omega
 have s5:Xr (((iC w.Yn).n+1)*48<=140737488355328):=by show _<=_;simp only[iC];omega
 go_enter func207,ntmps207;go_upto_region 1 with fail
 rw[L.o];go_wp2_with (go_at_call 232;refine(fe y _ U).mono ?_;rintro e w1 ⟨rfl,rfl⟩);go_region_law (refine cv rfl (.tmp 57) (.tmp 61) 156 rfl V (agg #[string ⟨#[]⟩,string ⟨#[]⟩,int i64 0,int i64 0]) 48 (H 9) (iC w.Yn) underlying156 q s t z rfl (XD 3) (by simp[Act.eval] <;> rfl) (F.o.YF 9) ⟨_,0,none⟩ 1 1 (sD (y,⟨b,v,d⟩)) (by simp[Act.eval] <;> rfl) rfl s2.o s3.o UA s4.o s5.o ?_;intro g c w1 m k a;obtain⟨k5,f5,C⟩:=F.o.app (d':={ w with Yn:=w.Yn++[(y,⟨b,v,d⟩)] }) l 12 G 9 (by omega) g c ((iC w.Yn).n+1) _ m (Lu w.Yn (y,⟨b,v,d⟩)) k (by simpa using a) (yS w H _) (by omega) _ rfl (by simp[cO,ie,iC]);clear m k a)
 all_goals go_wp2
 all_goals go_ret
 all_goals exact⟨T0 (by rw[E.o]),_,by rw[E.o];exact C.o.1,C.o.2.first (K.trans (bM.alloc _).drew)⟩
theorem G0(h:aV i f n S x w H)(t:S.length=l)(u:y.size<=1073741824)(o:(w.Yw==0)=false)(p:(w.Yw==6)=false)(c:(y.toList == [36,46])=false)(g:(y.toList == [36,61])=true) :
  i9 f n l S x w H y b v d i:=by
 unfold i9;obtain⟨W,m,K,D,R,T,U⟩:=boxed h b v d;clear h;obtain⟨F,G,I,J,L,M,N,O,V,P,q,j,r⟩:=D.cells l t;clear F G I J L M N O P q r;have E:=D.free;have s:=J2 y g;cases z:(w.Yw==5)
 ·have a:Xr (aZ w y ⟨b,v,d⟩=(8,w)):=by show aZ w y ⟨b,v,d⟩=_;simp[aZ,o,p,c,z,s]
  go_enter func207,ntmps207;go_upto_region 1 with fail
  rw[m.o];go_wp2_with (go_at_call 232;refine(fe y _ u).mono ?_;rintro e Q ⟨rfl,rfl⟩);go_ret;exact⟨T0 (by rw[a.o]),H,by rw[a.o];exact D,(aw.refl _ _ _).Yh K⟩
 ·cases k:w.Yg
  ·have a:Xr (aZ w y ⟨b,v,d⟩=cC w):=(by show aZ w y ⟨b,v,d⟩=_;simp only[aZ,o,p,c,g,z,k];simp);rw[k]at j;go_enter func207,ntmps207;(go_upto_region 1 with fail);rw[m.o];go_wp2_with fail;refine(xu f n l S x w H _ (by exact D) t).mono ?_;rintro e X ⟨rfl,B,A,C⟩;go_wp2;go_ret;exact⟨T0 (by rw[a.o]),B,by rw[a.o];exact A,C.first K⟩
  ·have a:Xr (aZ w y ⟨b,v,d⟩=(8,w)):=(by show aZ w y ⟨b,v,d⟩=_;simp[aZ,o,p,c,k,s]);rw[k]at j;go_enter func207,ntmps207;(go_upto_region 1 with fail);rw[m.o];go_wp2_with (go_at_call 232;refine(fe y _ u).mono ?_;rintro e Q ⟨rfl,rfl⟩);go_ret;exact⟨T0 (by rw[a.o]),H,by rw[a.o];exact D,(aw.refl _ _ _).Yh K⟩
theorem OF(h:aV i f n S x w H)(m:S.length=l)(N:gC w 10000000)(L:y.size<=1073741824)(M:CT w 100000000) :
  i9 f n l S x w H y b v d i:=by
 cases q:(w.Yw==0)
 ·cases F:(w.Yw==6)
  ·cases k:(y.toList == [36,46])
   ·cases o:(y.toList == [36,61])
    ·cases O:dD y
     ·cases U:w.Yg
      ·exact EM f n l S x w H y b v d i h m N L q F k o O U
      ·exact zT f n l S x w H y b v d i h m N L q F k o O U
     ·unfold i9;obtain⟨W,p,K,D,P,Q,R⟩:=boxed h b v d;clear h M;obtain⟨r,s,t,u,z,A,B,C,T,E,a,g,c⟩:=D.cells l m;clear r s t u z A B C E a c;have j:Xr (aZ w y ⟨b,v,d⟩=(8,w)):=(by show aZ w y ⟨b,v,d⟩=_;simp[aZ,q,F,k,o,O]);go_enter func207,ntmps207;(go_upto_region 1 with fail);rw[p.o];go_wp2_with (go_at_call 232;refine(fe y _ L).mono ?_;rintro e X ⟨rfl,rfl⟩);go_ret;exact⟨T0 (by rw[j.o]),H,by rw[j.o];exact D,(aw.refl _ _ _).Yh K⟩
    ·exact G0 f n l S x w H y b v d i h m L q F k o
   ·unfold i9;obtain⟨W,p,K,D,P,Q,R⟩:=boxed h b v d;clear h M;obtain⟨r,s,t,u,z,A,B,C,T,E,a,g,c⟩:=D.cells l m;clear r s t u z A B C E a g c;have j:Xr (aZ w y ⟨b,v,d⟩=mC w ⟨b,v,d⟩):=(by show aZ w y ⟨b,v,d⟩=_;simp only[aZ,q,F,k];simp);go_enter func207,ntmps207;(go_upto_region 1 with fail);rw[p.o];go_wp2_with fail;refine(Py f n l S x w H b v d _ (by exact D) m N).mono ?_;rintro e V ⟨rfl,I,G,J⟩;go_wp2;go_ret;exact⟨T0 (by rw[j.o]),I,by rw[j.o];exact G,J.first K⟩
  ·unfold i9;obtain⟨W,p,K,D,P,Q,R⟩:=boxed h b v d;clear h M;obtain⟨r,s,t,u,z,A,B,C,T,E,a,g,c⟩:=D.cells l m;clear r s t u z A B C E a g c;have j:Xr (aZ w y ⟨b,v,d⟩=aI w y):=(by show aZ w y ⟨b,v,d⟩=_;simp only[aZ,q,F];simp);go_enter func207,ntmps207;(go_upto_region 1 with fail);rw[p.o];go_wp2_with fail;refine(wJ f n l S x w H y _ (by exact D) m).mono ?_;rintro e V ⟨rfl,I,G,J⟩;go_wp2;go_ret;exact⟨T0 (by rw[j.o]),I,by rw[j.o];exact G,J.first K⟩
 ·unfold i9;obtain⟨W,p,K,D,P,Q,R⟩:=boxed h b v d;clear h;obtain⟨r,s,t,u,z,A,B,C,T,E,a,g,c⟩:=D.cells l m;clear r s t u z A B C E a g c;have j:Xr (aZ w y ⟨b,v,d⟩=ay w y):=by show aZ w y ⟨b,v,d⟩=_;simp only[aZ,q];simp
  go_enter func207,ntmps207;go_upto_region 1 with fail
  rw[p.o];go_wp2_with fail;refine(zR f n l S x w H y _ (by exact D) m N L M).mono ?_;rintro e V ⟨rfl,I,G,J⟩;go_wp2;go_ret;exact⟨T0 (by rw[j.o]),I,by rw[j.o];exact G,J.first K⟩
def fU:Db:=⟨[],[],[],[],[],[],[],[],0,⟨#[]⟩,[],false,[]⟩
abbrev pJ:=Int×Pl
def dh:pJ:=(0,⟨⟨#[]⟩,0,0⟩)
def iz(f:pJ):Value:=agg #[int i64 f.1,string f.2.YB,int i64 f.2.YC,int i64 f.2.YD]
def lD(n s:Xs)(p:Nat):Pl:=⟨n,aX s p,bK s p⟩
def jB(n s:Xs)(i:tE):pJ:=(if i.YA=true then 7 else i.YE,lD n s i.pos)
abbrev Im:=pJ×List Bool×Db
def sR(fs:Fs)(x z:Nat)(p:Pl)(d:Db):pJ ⊕ (Nat×Nat) :=
  if lT d=true then .inl (4,p)
  else if aK (aC (ak fs x) z).1=false then .inl (jB (aF fs x) (ak fs x) (aC (ak fs x) z).1)
  else if dD (aC (ak fs x) z).1.text=true then .inl (5,lD (aF fs x) (ak fs x) (aC (ak fs x) z).1.pos)
  else if bR fs (aC (ak fs x) z).1.text<0 then .inl (6,lD (aF fs x) (ak fs x) (aC (ak fs x) z).1.pos)
  else if aK (aC (ak fs x) (aC (ak fs x) z).2).1=false then .inl (jB (aF fs x) (ak fs x) (aC (ak fs x) (aC (ak fs x) z).2).1)
  else if((aC (ak fs x) (aC (ak fs x) z).2).1.text.toList == [36,93])=false then .inl (5,lD (aF fs x) (ak fs x) (aC (ak fs x) (aC (ak fs x) z).2).1.pos)
  else .inr ((bR fs (aC (ak fs x) z).1.text).toNat,(aC (ak fs x) (aC (ak fs x) z).2).2)
def oo(rf:Nat->List Bool->Db->Im)(fs:Fs)(x z:Nat)(p:Pl)(bg:List Bool)(d:Db):Im×Nat :=
  match sR fs x z p d with
  | .inl f=>((f,bg,d),z)
  | .inr (j,z')=>(rf j bg d,z')
def kG(rf:Nat->List Bool->Db->Im)(fs:Fs)(x z:Nat)(t:Xs)(p:Pl)(bg:List Bool)(d:Db):Im×Nat :=
  if(t.toList == [36,91])=true then oo rf fs x z p bg d
  else((if((aZ d t p).1==0)=true then dh else((aZ d t p).1,p),bg,(aZ d t p).2),z)
def bE(fs:Fs):Nat->Nat->Nat->List Bool->Db->Im
  | 0,_,_,bg,d=>(dh,bg,d)
  | f+1,x,k,bg,d =>
    if aK (aC (ak fs x) k).1=true then
      (if((kG (fun j bg d=>if bg.getD j true=true then(dh,bg,d) else bE fs f j 0 (bg.set j true) d) fs x (aC (ak fs x) k).2 (aC (ak fs x) k).1.text (lD (aF fs x) (ak fs x) (aC (ak fs x) k).1.pos) bg d).1.1.1==0)=true
       then bE fs f x (kG (fun j bg d=>if bg.getD j true=true then(dh,bg,d) else bE fs f j 0 (bg.set j true) d) fs x (aC (ak fs x) k).2 (aC (ak fs x) k).1.text (lD (aF fs x) (ak fs x) (aC (ak fs x) k).1.pos) bg d).2
          (kG (fun j bg d=>if bg.getD j true=true then(dh,bg,d) else bE fs f j 0 (bg.set j true) d) fs x (aC (ak fs x) k).2 (aC (ak fs x) k).1.text (lD (aF fs x) (ak fs x) (aC (ak fs x) k).1.pos) bg d).1.2.1
          (kG (fun j bg d=>if bg.getD j true=true then(dh,bg,d) else bE fs f j 0 (bg.set j true) d) fs x (aC (ak fs x) k).2 (aC (ak fs x) k).1.text (lD (aF fs x) (ak fs x) (aC (ak fs x) k).1.pos) bg d).1.2.2
       else(kG (fun j bg d=>if bg.getD j true=true then(dh,bg,d) else bE fs f j 0 (bg.set j true) d) fs x (aC (ak fs x) k).2 (aC (ak fs x) k).1.text (lD (aF fs x) (ak fs x) (aC (ak fs x) k).1.pos) bg d).1)
    else if(aC (ak fs x) k).1.YA=true/\lT d=false then(dh,bg,d) else(jB (aF fs x) (ak fs x) (aC (ak fs x) k).1,bg,d)
def dd(fs:Fs)(f:Nat)(j:Nat)(bg:List Bool)(d:Db):Im :=
  if bg.getD j true=true then(dh,bg,d) else bE fs f j 0 (bg.set j true) d
def ia(fs:Fs)(f x k:Nat)(bg:List Bool)(d:Db):Im×Nat :=
  kG (dd fs f) fs x (aC (ak fs x) k).2 (aC (ak fs x) k).1.text (lD (aF fs x) (ak fs x) (aC (ak fs x) k).1.pos) bg d
theorem Al(a:aK (aC (ak T n) l).1=true)(b:((ia T f n l I w).1.1.1==0)=true) :
    bE T (f+1) n l I w=bE T f n (ia T f n l I w).2 (ia T f n l I w).1.2.1 (ia T f n l I w).1.2.2:=by
  rw[bE,Uf a];exact Uf b
theorem pO(a:aK (aC (ak T n) l).1=true)(b:((ia T f n l I w).1.1.1==0)=false) :
    bE T (f+1) n l I w=(ia T f n l I w).1:=by
  rw[bE,Uf a];exact Ud (fun c=>Bool.noConfusion (b.symm.trans c))
theorem BG(a:aK (aC (ak T n) l).1=false)(b:(aC (ak T n) l).1.YA=true)(c:lT w=false) :
    bE T (f+1) n l I w=(dh,I,w):=by
  rw[bE,Ud (by simp[a]),Uf ⟨b,c⟩]
theorem xV(a:aK (aC (ak T n) l).1=false)(b:¬((aC (ak T n) l).1.YA=true/\lT w=false)) :
    bE T (f+1) n l I w=(jB (aF T n) (ak T n) (aC (ak T n) l).1,I,w):=by
  rw[bE,Ud (by simp[a]),Ud b]
theorem ld{i:tE}(h:aK i=false)(a:i.YA=false):(i.YE==0)=false:=by
  simp[aK,a]at h;simpa using h
structure oQ(d:Db)(m:Nat):Prop where
  Yk:d.Yk.length<=m
  Ye:d.Ye.length+d.Yc.length<=m
  Yf:d.Yf.length+d.Yc.length<=m
  Yl:d.Yl.length+d.Yc.length<=m
  Yo:d.Yo.length+d.Yc.length<=m
  Yy:d.Yy.length<=m
  Yt:d.Yt.length<=m
  Yn:d.Yn.length<=m
  inner:∀p,p∈d.Yy->p.1<=m/\p.2<=m
  same:d.rbl.length=d.Yy.length
  recs:∀x,x∈d.rbl->x<=d.Yt.length
theorem oQ.small{N:Nat}(h:oQ k a)(c:a<=N):gC k N/\CT k N :=
  ⟨⟨by have:=h.Yk;omega,by have:=h.Ye;omega,by have:=h.Yf;omega,by have:=h.Yl;omega,by have:=h.Yo;omega,by have:=h.Yy;omega,by have:=h.Yt;omega,by have:=h.Yy;have:=h.same;omega,by have:=h.Ye;omega,by have:=h.Yn;omega⟩,
   ⟨fun p b=>by have:=h.inner p b;omega,h.same,h.recs⟩⟩
theorem oQ.mono{m':Nat}(h:oQ k a)(c:a<=m'):oQ k m' :=
  ⟨by have:=h.Yk;omega,by have:=h.Ye;omega,by have:=h.Yf;omega,by have:=h.Yl;omega,by have:=h.Yo;omega,by have:=h.Yy;omega,by have:=h.Yt;omega,by have:=h.Yn;omega,fun p b=>by have:=h.inner p b;omega,h.same,h.recs⟩
theorem oQ.empty:oQ fU 0:=by
  refine⟨?_,?_,?_,?_,?_,?_,?_,?_,?_,?_,?_⟩ <;> simp[fU]
theorem oQ.plain(h:oQ k a)(c:Int)(l:Xs)(b:Bool):oQ { k with Yw:=c,Yx:=l,Yg:=b } a:=⟨h.Yk,h.Ye,h.Yf,h.Yl,h.Yo,h.Yy,h.Yt,h.Yn,h.inner,h.same,h.recs⟩
theorem xI(l:List St)(b:Nat):(kL l b).length=l.length:=kV l b l.length
theorem oQ.declare(h:oQ k a)(p:Pl):oQ { aW k p with Yw:=0,Yx:=⟨#[]⟩,Yc:=[],Yg:=false,Yn:=[] } (a+1):=by
  have e:=h.Ye;have f:=h.Yf;have g:=h.Yl;have i:=h.Yo;have b:=h.mono (WY a);unfold aW;split
  · exact⟨b.Yk,by simp;omega,by simp;omega,by simp;omega,by simp;omega,b.Yy,b.Yt,by simp,b.inner,b.same,b.recs⟩
  · split
    · have:=E1 k.Yf (k.Yc.take k.Yc.length)
      simp only[List.take_length]at this;exact⟨b.Yk,by simp[eG];omega,by simp[eG];omega,by simp[eG];omega,by simp[eG];omega,b.Yy,b.Yt,by simp,b.inner,b.same,b.recs⟩
    · unfold oe nM
      have:=h.Yt;split
      · next j=>exact⟨b.Yk,by simp;omega,by simp;omega,by simp;omega,by simp;omega,b.Yy,by simp;omega,by simp,b.inner,b.same,fun x c=>by have:=h.recs x c;simp;omega⟩
      · exact⟨b.Yk,by simp;omega,by simp;omega,by simp;omega,by simp;omega,b.Yy,by simp;omega,by simp,b.inner,b.same,fun x c=>by have:=h.recs x c;simp;omega⟩
theorem oQ.take(h:oQ k a)(x:Xs)(o:Pl):oQ (aZ k x o).2 (a+1):=by
  have b:=h.mono (WY a);have c:=fun r=>b.plain r k.Yx k.Yg;have s:=h.Yk;have t:=h.Ye;have u:=h.Yf;have v:=h.Yl;have w:=h.Yo;have z:=h.Yy;have l:oQ (bU k x).2 (a+1):=by
    unfold bU;split
    · exact b
    · split
      · exact b
      · split
        · exact b
        · exact⟨by simp;omega,b.Ye,b.Yf,b.Yl,b.Yo,b.Yy,b.Yt,b.Yn,b.inner,b.same,b.recs⟩
  have j:oQ (aI k x).2 (a+1):=by
    unfold aI;split
    · exact c 2
    · split
      · exact c 3
      · split
        · exact c 4
        · split
          · exact c 5
          · exact b
  have i:oQ (ay k x).2 (a+1):=by
    unfold ay;split
    · refine⟨b.Yk,b.Ye,b.Yf,b.Yl,b.Yo,by simp;omega,b.Yt,b.Yn,?_,by simp[h.same],?_⟩
      · intro p d
        simp only[List.mem_append,List.mem_singleton]at d;rcases d with d | rfl
        · exact b.inner p d
        · simp only;omega
      · intro y f
        simp only[List.mem_append,List.mem_singleton]at f;rcases f with f | rfl
        · exact h.recs y f
        · exact Ue _
    · split
      · split
        · exact b
        · next p d =>
          unfold dc;have n:k.rbl≠[]:=by
            intro e;have:=h.same;rw[e,sU d]at this;simp at this
          obtain⟨y,f⟩:∃y,k.rbl.getLast?=some y:=⟨_,We n⟩
          rw[f];refine⟨b.Yk,b.Ye,b.Yf,?_,?_,?_,?_,b.Yn,?_,?_,?_⟩
          · simp only[dA,List.length_take];omega
          · simp only[dA,List.length_take];omega
          · simp only[dA,List.length_dropLast];omega
          · show(kL k.Yt y).length<=_;rw[xI];exact b.Yt
          · intro q m
            simp only[dA]at m;exact b.inner q (Xq _ m)
          · simp only[dA,List.length_dropLast,h.same]
          · intro q m
            show q<=(kL k.Yt y).length;rw[xI];exact h.recs q (Xq _ m)
      · split
        · split
          · exact b
          · exact c 7
        · split
          · exact c 8
          · split
            · exact c 1
            · split
              · exact b
              · exact l
  have g:oQ (mC k o).2 (a+1):=by
    unfold mC;split
    · exact b
    · split
      · exact b
      · exact h.declare o
  unfold aZ;split
  · exact i
  · split
    · exact j
    · split
      · exact g
      · split
        · unfold cC
          split
          · exact b
          · exact b.plain k.Yw k.Yx true
        · split
          · exact b
          · split
            · exact⟨b.Yk,b.Ye,b.Yf,b.Yl,b.Yo,b.Yy,b.Yt,by have:=h.Yn;simp;omega,b.inner,b.same,b.recs⟩
            · split
              · exact⟨b.Yk,by simp;omega,by simp;omega,by simp;omega,by simp;omega,b.Yy,b.Yt,b.Yn,b.inner,b.same,b.recs⟩
              · exact b
def Pc(fs:Fs)(bg:List Bool)(j:Nat):Nat:=if bg.getD j true=true then 0 else(ak fs j).size+2
def eS(fs:Fs)(bg:List Bool):Nat:=Pc fs bg 0+Pc fs bg 1+Pc fs bg 2+Pc fs bg 3
theorem yn(f:I.length=4)(e:I.getD s true=false):eS T (I.set s true)+(ak T s).size+2=eS T I:=by
  match I,f with
  | [a,b,c,d],_ =>
    match s with
    | 0=>simp at e;subst e;simp[eS,Pc];omega
    | 1=>simp at e;subst e;simp[eS,Pc];omega
    | 2=>simp at e;subst e;simp[eS,Pc];omega
    | 3=>simp at e;subst e;simp[eS,Pc];omega
    | s+4=>simp at e
def To(fs:Fs)(bg:List Bool)(m:Nat)(r:Im):Prop :=
  r.2.1.length=4/\eS fs r.2.1<=eS fs bg/\∃m',oQ r.2.2 m'/\m'+eS fs r.2.1<=m+eS fs bg
theorem EJ(n:∀j a d m,a.length=4->oQ d m->To T a m (dd T s j a d))(x k:Nat)(a:List Bool)(d:Db)(m:Nat)(p:k<=(ak T x).size)(l:a.length=4)(g:oQ d m)(q:aK (aC (ak T x) k).1=true) :
    To T a (m+1) (ia T s x k a d).1/\k<(ia T s x k a d).2/\(ia T s x k a d).2<=(ak T x).size:=by
  have e:=gq (ak T x) k p;have c:=e.2.2 q;unfold ia kG;split
  · unfold oo
    split
    · exact⟨⟨l,Ue _,m,g,by simp only;omega⟩,c,e.2.1⟩
    · next j y b =>
      have f:=n j a d m l g;refine⟨⟨f.1,f.2.1,?_⟩,?_⟩
      · obtain⟨t,u,w⟩:=f.2.2;exact⟨t,u,by simp only;omega⟩
      · unfold sR at b
        have r:=gq (ak T x) (aC (ak T x) k).2 e.2.1;have v:=gq (ak T x) (aC (ak T x) (aC (ak T x) k).2).2 r.2.1
        repeat' split at b
        all_goals first | (cases b;done) | skip
        injection b with b
        injection b with o i
        subst i;omega
  · exact⟨⟨l,Ue _,m+1,g.take _ _,by simp only;omega⟩,c,e.2.1⟩
theorem Ni(f:Nat):(∀x k a d m,k<=(ak T x).size->a.length=4->oQ d m->(bE T f x k a d).2.1.length=4/\eS T (bE T f x k a d).2.1<=eS T a/\∃c,oQ (bE T f x k a d).2.2 c/\c+eS T (bE T f x k a d).2.1<=m+((ak T x).size-k)+eS T a) /\
    (∀j a d m,a.length=4->oQ d m->To T a m (dd T f j a d)):=by
  have b:∀f,(∀x k a d m,k<=(ak T x).size->a.length=4->oQ d m->(bE T f x k a d).2.1.length=4/\eS T (bE T f x k a d).2.1<=eS T a/\∃c,oQ (bE T f x k a d).2.2 c/\c+eS T (bE T f x k a d).2.1<=m+((ak T x).size-k)+eS T a) ->
      (∀j a d m,a.length=4->oQ d m->To T a m (dd T f j a d)):=by
    intro f h j a d m e g;unfold dd;split
    · exact⟨e,Ue _,m,g,Ue _⟩
    · next v =>
      have n:a.getD j true=false:=(by simpa using v);have E:=yn T a j e n;have:=h j 0 (a.set j true) d m (UF _) (by simpa using e) g;refine⟨this.1,by omega,?_⟩;obtain⟨c,y,F⟩:=this.2.2;exact⟨c,y,by omega⟩
  induction f with
  | zero =>
    have o:∀x k a d m,k<=(ak T x).size->a.length=4->oQ d m->(bE T 0 x k a d).2.1.length=4/\eS T (bE T 0 x k a d).2.1<=eS T a/\∃c,oQ (bE T 0 x k a d).2.2 c/\c+eS T (bE T 0 x k a d).2.1<=m+((ak T x).size-k)+eS T a:=by
      intro x k a d m q e g;exact⟨e,Ue _,m,g,by simp only[bE];omega⟩
    exact⟨o,b 0 o⟩
  | succ f r =>
    have p:∀x k a d m,k<=(ak T x).size->a.length=4->oQ d m->(bE T (f+1) x k a d).2.1.length=4/\eS T (bE T (f+1) x k a d).2.1<=eS T a/\∃c,oQ (bE T (f+1) x k a d).2.2 c/\c+eS T (bE T (f+1) x k a d).2.1<=m+((ak T x).size-k)+eS T a:=by
      intro x k a d m q e g;cases l:aK (aC (ak T x) k).1 with
      | true =>
        have D:=EJ T f r.2 x k a d m q e g l;obtain⟨⟨t,B,s,u,I⟩,J,C⟩:=D;cases i:((ia T f x k a d).1.1.1==0) with
        | true =>
          rw[Al T f x k a d l i];obtain⟨z,G,w,A,H⟩:=r.1 x (ia T f x k a d).2 (ia T f x k a d).1.2.1 (ia T f x k a d).1.2.2 s C t u;exact⟨z,by omega,w,A,by omega⟩
        | false =>
          rw[pO T f x k a d l i];exact⟨t,B,s,u,by omega⟩
      | false =>
        by_cases i:(aC (ak T x) k).1.YA=true/\lT d=false
        · rw[BG T f x k a d l i.1 i.2];exact⟨e,Ue _,m,g,by simp only;omega⟩
        · rw[xV T f x k a d l i];exact⟨e,Ue _,m,g,by simp only;omega⟩
    exact⟨p,b (f+1) p⟩
theorem zF(k:Nat)(a:b.size<=1024):(bh b k).1.text.size<=1024:=by
  unfold bh;generalize b.size-k+1=f
  induction f generalizing k with
  | zero=>simp[cm,ByteArray.size]
  | succ f c =>
    rw[cm];split
    · split
      · simp[ByteArray.size]
      · exact c _
    · split
      · simp[ByteArray.size]
      · exact rP b k a
theorem sX(k:Nat)(a:b.size<=1024):(aC b k).1.text.size<=1024:=by
  unfold aC;generalize b.size-k+1=f
  induction f generalizing k with
  | zero=>simp[dZ,ByteArray.size]
  | succ f c =>
    rw[dZ];split
    · split
      · exact c _
      · exact zF b _ a
    · exact rP b k a
theorem G1:(aZ w b z0).2.Yn=w.Yn∨(aZ w b z0).2.Yn=[]∨(aZ w b z0).2.Yn=w.Yn++[(b,z0)]:=by
 unfold aZ;split
 ·left
  unfold ay;split
  ·rfl
  ·split
   ·split
    ·rfl
    ·unfold dc;split <;> rfl
   ·split
    ·split <;> rfl
    ·split
     ·rfl
     ·split
      ·rfl
      ·split
       ·rfl
       ·unfold bU
        repeat' split
        all_goals rfl
 ·split
  ·left;unfold aI
   repeat' split
   all_goals rfl
  ·split
   ·unfold mC;split
    ·left;rfl
    ·split
     ·left;rfl
     ·right;left;rfl
   ·split
    ·left;unfold cC;split <;> rfl
    ·split
     ·left;rfl
     ·split
      ·right;right;rfl
      ·split
       ·left;rfl
       ·left;rfl
theorem OI:(aZ w b z0).2.Yt=w.Yt∨(∃y∈w.rbl,(aZ w b z0).2.Yt=kL w.Yt y)∨((aZ w b z0).2.Yt=w.Yt++[⟨w.Yw,w.Yx,w.Yc,w.Yn,z0,0⟩]/\0<w.Yc.length):=by
 unfold aZ;split
 ·unfold ay;split
  ·left;rfl
  ·split
   ·split
    ·left;rfl
    ·unfold dc;split
     ·left;rfl
     ·next y d=>right;left;exact⟨y,List.mem_of_getLast? d,rfl⟩
   ·split
    ·split <;> (left;rfl)
    ·split
     ·left;rfl
     ·split
      ·left;rfl
      ·split
       ·left;rfl
       ·left;unfold bU
        repeat' split
        all_goals rfl
 ·split
  ·left;unfold aI
   repeat' split
   all_goals rfl
  ·split
   ·unfold mC;split
    ·left;rfl
    ·next c =>
     have a:0<w.Yc.length:=by
      unfold mV at c;split at c <;> omega
     split
     ·left;rfl
     ·unfold aW;split
      ·left;rfl
      ·split
       ·left;rfl
       ·right;right
        refine⟨?_,a⟩;unfold oe;split <;> rfl
   ·split
    ·left;unfold cC;split <;> rfl
    ·split
     ·left;rfl
     ·split
      ·left;rfl
      ·split
       ·left;rfl
       ·left;rfl
structure TZ(S:List St)(d:Db):Prop where
 pre:∃m,d.Yt=S++m
 rbl:∀y∈d.rbl,S.length<=y
structure Rw where
 Yx:Xs
 Yi:Int
 why:Int
 at_:Pl
def ob(r:Rw):List Value:=[string r.Yx,int i64 r.Yi,int i64 r.why,string r.at_.YB,int i64 r.at_.YC,int i64 r.at_.YD]
def lP(l:List Rw):List Value:=l.flatMap ob
def lC:Pl:=⟨⟨#[]⟩,0,0⟩
def qy:Rw:=⟨⟨#[]⟩,0,0,lC⟩
theorem SU:(prog.info? 38).map (fun i=>(i.zero,i.size,i.bytes))=some (some (agg #[string ⟨#[]⟩,int i64 0,int i64 0,string ⟨#[]⟩,int i64 0,int i64 0]),6,64):=by kernel_rfl
theorem ED(l:List Rw):(lP l).length=l.length*6:=by
 induction l with
 | nil=>rfl
 | cons x r a =>
  have e:lP (x :: r)=ob x++lP r:=rfl;rw[e,Uh,a];simp[ob];omega
theorem Jj(l:List Rw)(k:Nat)(a:k<l.length)(j:Nat)(d:j<6):(lP l)[k*6+j]?=(ob l[k])[j]?:=by
 induction l generalizing k with
 | nil=>simp at a
 | cons s r c =>
  have e:lP (s :: r)=ob s++lP r:=rfl;rw[e];cases k with
  | zero=>rw[Uv (by simp[ob];omega)];simp
  | succ k =>
   rw[Ur (by simp[ob];omega)];have b:(k+1)*6+j-(ob s).length=k*6+j:=by simp[ob];omega
   rw[b,c k (by simpa using a)];rfl
def Ml(p:Pl):Prop:=-1000000000<=p.YC/\p.YC<=1000000000
structure TE(L:List Rw):Prop where
 len:L.length<=100000
 YC:∀r∈L,Ml r.at_
end Go.Proofs.YtnbhnocdhbcbcaaGreat

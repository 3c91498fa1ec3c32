import Derived.Test.YtnbhnocdhbcbcaaGreatK04
namespace Go.Proofs.YtnbhnocdhbcbcaaGreat
open Go.RowKit Tryz
open Value IntKind Ending
set_option maxHeartbeats 0
variable{k:Db}{a g:Nat}{o:World}{L m:List Value}{D:Nat->Hd}(T:Fs)(f n l:Nat)(S x:List Value)(I:List Bool)(w:Db)(H:Nat->Hd)(y b:Xs)(v d:Int)(i:World)(s:Nat)(z0:Pl)
def jC(d:Db)(x:Xs):Int:=if aK d.XI x=false then 18 else if aK d.Xz x=true then 19 else 0
def jD(d:Db)(x:Xs):Int:=if aK d.XB x=false then 17 else 0
def gi(d:Db)(x:Xs):Int:=if 1<d.Xz.length then 16 else if aK d.XI x=false then 18 else if aK d.XL x=true then 20 else 0
def f8(d:Db)(x:Xs):Int:=if aK d.XB x=true then 0 else if aK d.XI x=false then 21 else if aK d.XL x=false then 22 else 0
def bi(d:Db)(x:Xs):Int :=
 if(d.XU==7)=true then(if aK d.Xz x=true∨eD d x=true then 13 else 0)
 else if(d.XU==8)=true then(if aK d.Xz x=true∨fe d x=true then 13 else 0)
 else if(d.XU==1)=true then jC d x
 else if d.Xz.length=0 then jD d x
 else if(d.XU==2)=true then gi d x
 else f8 d x
theorem tL(h:aW i f n S x w H)(a:S.length=l)(c:gF w 1073741824) :
  Calls prog 257 #[pointer (some ⟨f,l,none⟩),string b] i fun e o=>e=returned (int i64 (jC w b))/\o=i:=by
 obtain⟨q,r,s,t,u,v,y,z,A,B,j,k,m⟩:=h.cells l a;cases d:aK w.XI b <;> cases g:aK w.Xz b
 all_goals
  go_enter func257,ntmps257;go_wp2_with (first | (go_at_call 270;refine(lj f n l S x w H b _ (by exact h) a c.XI).mono ?_;rintro e p ⟨rfl,rfl⟩) | (go_at_call 254;refine(fD (H 8) w.Xz b _ (by exact h.X9 8) c.Xz).mono ?_;rintro e p ⟨rfl,rfl⟩));go_ret;exact⟨au (by simp[jC,d,g]),rfl⟩
theorem tN(h:aW i f n S x w H)(a:S.length=l)(d:gF w 1073741824) :
  Calls prog 258 #[pointer (some ⟨f,l,none⟩),string b] i fun e m=>e=returned (int i64 (jD w b))/\m=i:=by
 obtain⟨o,p,q,r,s,t,u,v,y,z,g,j,k⟩:=h.cells l a;cases c:aK w.XB b
 all_goals
  go_enter func258,ntmps258;go_wp2_with (first | (go_at_call 271;refine(nK f n l S x w H b _ (by exact h) a d.XB).mono ?_;rintro e A ⟨rfl,rfl⟩));go_ret;exact⟨au (by simp[jD,c]),rfl⟩
theorem tM(h:aW i f n S x w H)(a:S.length=l)(c:gF w 1073741824) :
  Calls prog 259 #[pointer (some ⟨f,l,none⟩),string b] i fun e r=>e=returned (int i64 (gi w b))/\r=i:=by
 obtain⟨s,t,u,v,y,z,A,B,C,D,o,p,q⟩:=h.cells l a;have m:=c.Xz;by_cases g:1<w.Xz.length
 ·go_enter func259,ntmps259;go_wp2_with (first | (go_at_call 270;refine(lj f n l S x w H b _ (by exact h) a c.XI).mono ?_;rintro e d ⟨rfl,rfl⟩) | (go_at_call 272;refine(oi f n l S x w H b _ (by exact h) a c.XL).mono ?_;rintro e d ⟨rfl,rfl⟩));go_ret;exact⟨au (by simp[gi,g]),rfl⟩
 ·cases j:aK w.XI b <;> cases k:aK w.XL b
  all_goals
   go_enter func259,ntmps259;go_wp2_with (first | (go_at_call 270;refine(lj f n l S x w H b _ (by exact h) a c.XI).mono ?_;rintro e d ⟨rfl,rfl⟩) | (go_at_call 272;refine(oi f n l S x w H b _ (by exact h) a c.XL).mono ?_;rintro e d ⟨rfl,rfl⟩));go_ret;exact⟨au (by simp[gi,g,j,k]),rfl⟩
theorem rS(h:aW i f n S x w H)(a:S.length=l)(c:gF w 1073741824) :
  Calls prog 260 #[pointer (some ⟨f,l,none⟩),string b] i fun e q=>e=returned (int i64 (f8 w b))/\q=i:=by
 obtain⟨r,s,t,u,v,y,z,A,B,C,m,o,p⟩:=h.cells l a;cases g:aK w.XB b
 ·cases j:aK w.XI b <;> cases k:aK w.XL b
  all_goals
   go_enter func260,ntmps260;go_wp2_with (first | (go_at_call 271;refine(nK f n l S x w H b _ (by exact h) a c.XB).mono ?_;rintro e d ⟨rfl,rfl⟩) | (go_at_call 270;refine(lj f n l S x w H b _ (by exact h) a c.XI).mono ?_;rintro e d ⟨rfl,rfl⟩) | (go_at_call 272;refine(oi f n l S x w H b _ (by exact h) a c.XL).mono ?_;rintro e d ⟨rfl,rfl⟩));go_ret;exact⟨au (by simp[f8,g,j,k]),rfl⟩
 ·go_enter func260,ntmps260;go_wp2_with (first | (go_at_call 271;refine(nK f n l S x w H b _ (by exact h) a c.XB).mono ?_;rintro e d ⟨rfl,rfl⟩) | (go_at_call 270;refine(lj f n l S x w H b _ (by exact h) a c.XI).mono ?_;rintro e d ⟨rfl,rfl⟩) | (go_at_call 272;refine(oi f n l S x w H b _ (by exact h) a c.XL).mono ?_;rintro e d ⟨rfl,rfl⟩));go_ret;exact⟨au (by simp[f8,g]),rfl⟩
theorem p9(h:aW i f n S x w H)(d:S.length=l)(a:gF w 1073741824) :
  Calls prog 237 #[pointer (some ⟨f,l,none⟩),string b] i fun e y=>e=returned (int i64 (bi w b))/\y=i:=by
 obtain⟨z,A,B,C,D,E,F,G,I,J,t,u,v⟩:=h.cells l d;cases k:(w.XU==7)
 ·cases m:(w.XU==8)
  ·cases o:(w.XU==1)
   ·by_cases g:w.Xz.length=0
    ·have c:Xr (bi w b=jD w b):=(by show bi w b=_;simp only[bi,k,m,o,g];simp);have r:((w.Xz.length:Int)==0)=true:=(by simp[g]);clear g;go_enter func237,ntmps237;go_wp2_with (first | (go_at_call 258;refine(tN f n l S x w H b _ (by exact h) d a).mono ?_;rintro e j ⟨rfl,rfl⟩));go_ret;exact⟨au (by rw[c.o]),rfl⟩
    ·have r:((w.Xz.length:Int)==0)=false:=TU.2 (by omega);cases s:(w.XU==2)
     ·have c:Xr (bi w b=f8 w b):=(by show bi w b=_;simp[bi,k,m,o,s,g]);clear g;go_enter func237,ntmps237;go_wp2_with (first | (go_at_call 260;refine(rS f n l S x w H b _ (by exact h) d a).mono ?_;rintro e j ⟨rfl,rfl⟩));go_ret;exact⟨au (by rw[c.o]),rfl⟩
     ·have c:Xr (bi w b=gi w b):=(by show bi w b=_;simp[bi,k,m,o,s,g]);clear g;go_enter func237,ntmps237;go_wp2_with (first | (go_at_call 259;refine(tM f n l S x w H b _ (by exact h) d a).mono ?_;rintro e j ⟨rfl,rfl⟩));go_ret;exact⟨au (by rw[c.o]),rfl⟩
   ·have c:Xr (bi w b=jC w b):=(by show bi w b=_;simp[bi,k,m,o]);go_enter func237,ntmps237;go_wp2_with (first | (go_at_call 257;refine(tL f n l S x w H b _ (by exact h) d a).mono ?_;rintro e j ⟨rfl,rfl⟩));go_ret;exact⟨au (by rw[c.o]),rfl⟩
  ·cases p:aK w.Xz b <;> cases q:fe w b
   all_goals
    go_enter func237,ntmps237;go_wp2_with (first | (go_at_call 254;refine(fD (H 8) w.Xz b _ (by exact h.X9 8) a.Xz).mono ?_;rintro e j ⟨rfl,rfl⟩) | (go_at_call 256;refine(Bs f n l S x w H b _ (by exact h) d a).mono ?_;rintro e j ⟨rfl,rfl⟩));go_ret;exact⟨au (by simp[bi,k,m,p,q]),rfl⟩
 ·cases p:aK w.Xz b <;> cases q:eD w b
  all_goals
   go_enter func237,ntmps237;go_wp2_with (first | (go_at_call 254;refine(fD (H 8) w.Xz b _ (by exact h.X9 8) a.Xz).mono ?_;rintro e j ⟨rfl,rfl⟩) | (go_at_call 255;refine(mz f n l S x w H b _ (by exact h) d a).mono ?_;rintro e j ⟨rfl,rfl⟩));go_ret;exact⟨au (by simp[bi,k,p,q]),rfl⟩
theorem gF.mono{M:Nat}(h:gF k a)(b:a<=M):gF k M :=
 ⟨TF h.XH b,TF h.XB b,TF h.XC b,TF h.XI b,TF h.XL b,TF h.XW b,TF h.XQ b,TF h.rbl b,TF h.Xz b,TF h.XK b⟩
theorem aW.XU(h:aW o a g L m k D)(c:Nat)(e:L.length=c)(b:Int) :
  Xr (aW (o.setCell ⟨a,c+8,none⟩ (int i64 b)) a g L m { k with XU:=b } D/\aD a o D (o.setCell ⟨a,c+8,none⟩ (int i64 b)) D) :=
 h.set (d':={ k with XU:=b }) c 8 e (Lf k D b) _ (by omega) rfl
theorem aW.lab(h:aW o a g L m k D)(c:Nat)(e:L.length=c)(b:Xs) :
  Xr (aW (o.setCell ⟨a,c+9,none⟩ (string b)) a g L m { k with XV:=b } D/\aD a o D (o.setCell ⟨a,c+9,none⟩ (string b)) D) :=
 h.set (d':={ k with XV:=b }) c 9 e (Gj k D b) _ (by omega) rfl
theorem aW.XD(h:aW o a g L m k D)(c:Nat)(e:L.length=c)(b:Bool) :
  Xr (aW (o.setCell ⟨a,c+11,none⟩ (bool b)) a g L m { k with XD:=b } D/\aD a o D (o.setCell ⟨a,c+11,none⟩ (bool b)) D) :=
 h.set (d':={ k with XD:=b }) c 11 e (BS k D b) _ (by omega) rfl
theorem aW.forget(h:aW o a g L m k D)(b:Nat)(d:L.length=b) :
  aW (o.setCell ⟨a,b+10,none⟩ (slice none 0 0)) a g L m { k with Xz:=[] } (iJ D 8 ⟨none,0⟩)/\aD a o D (o.setCell ⟨a,b+10,none⟩ (slice none 0 0)) (iJ D 8 ⟨none,0⟩) :=
 h.put (d':={ k with Xz:=[] }) b 10 d 8 (by omega) ⟨none,0⟩ ⟨by simp[a8,aE,dL],TH ⟨by simp[a8,aE],by simp[a8,aE]⟩⟩ (WW _ _) (TH rfl) (uy k D []) _ (by omega) (by simp[cK,iJ])
theorem aW.noProof(h:aW o a g L m k D)(b:Nat)(d:L.length=b) :
  aW (o.setCell ⟨a,b+12,none⟩ (slice none 0 0)) a g L m { k with XK:=[] } (iJ D 9 ⟨none,0⟩)/\aD a o D (o.setCell ⟨a,b+12,none⟩ (slice none 0 0)) (iJ D 9 ⟨none,0⟩) :=
 h.put (d':={ k with XK:=[] }) b 12 d 9 (by omega) ⟨none,0⟩ ⟨by simp[a8,iB,oG],TH ⟨by simp[a8,iB],by simp[a8,iB]⟩⟩ (WW _ _) (TH rfl) (yB k D []) _ (by omega) (by simp[cK,iJ])
def aJ(d:Db)(x:Xs):Int×Db :=
 if(x.toList == [36,102])=true then(0,{ d with XU:=2 })
 else if(x.toList == [36,101])=true then(0,{ d with XU:=3 })
 else if(x.toList == [36,97])=true then(0,{ d with XU:=4 })
 else if(x.toList == [36,112])=true then(0,{ d with XU:=5 })
 else(14,d)
def cw(d:Db):Int×Db:=if d.Xz.length=0 then(15,d) else(0,{ d with XD:=true })
def bV(d:Db)(x:Xs):Int×Db :=
 if dD x=true then(8,d) else if iz x=false then(12,d) else if eD d x=true then(13,d)
 else(0,{ d with XH:=d.XH++[x],XV:=x,XU:=6 })
def mu(d:Db)(p:Pl):Int×Db :=
 if(d.Xz.length:Int)<mQ d then(15,d)
 else if(d.XU==5)=true/\d.XD=false then(23,d)
 else(0,{ aX d p with XU:=0,XV:=⟨#[]⟩,Xz:=[],XD:=false,XK:=[] })
def cU(d:Db)(q:Nat×Nat):Db :=
 match d.rbl.getLast? with
 | none=>dx d d.XW.dropLast q
 | some x=>{ dx d d.XW.dropLast q with rbl:=d.rbl.dropLast,XQ:=kE d.XQ x }
def ay(d:Db)(x:Xs):Int×Db :=
 if(x.toList == [36,123])=true then(0,{ d with XW:=d.XW++[(d.XI.length,d.XL.length)],rbl:=d.rbl++[d.XQ.length] })
 else if(x.toList == [36,125])=true then(match d.XW.getLast? with | none=>(9,d) | some p=>(0,cU d p))
 else if(x.toList == [36,99])=true then(if 0<d.XW.length then(10,d) else(0,{ d with XU:=7 }))
 else if(x.toList == [36,118])=true then(0,{ d with XU:=8 })
 else if(x.toList == [36,100])=true then(0,{ d with XU:=1 })
 else if(x.toList == [36,102])=true∨(x.toList == [36,101])=true∨(x.toList == [36,97])=true∨(x.toList == [36,112])=true then(11,d)
 else bV d x
def aZ(d:Db)(x:Xs)(p:Pl):Int×Db :=
 if(d.XU==0)=true then ay d x
 else if(d.XU==6)=true then aJ d x
 else if(x.toList == [36,46])=true then mu d p
 else if(x.toList == [36,61])=true/\(d.XU==5)=true/\d.XD=false then cw d
 else if dD x=true then(8,d)
 else if d.XD=true then(0,{ d with XK:=d.XK++[(x,p)] })
 else if(bi d x==0)=true then(0,{ d with Xz:=d.Xz++[x] })
 else(bi d x,d)
set_option maxRecDepth 100000
theorem wC(h:aW i f n S x w H)(m:S.length=l) :
  Calls prog 234 #[pointer (some ⟨f,l,none⟩),string b] i fun e q=>e=returned (int i64 (aJ w b).1)/\∃p,aW q f n S x (aJ w b).2 p/\aD f i H q p:=by
 obtain⟨v,y,z,A,B,C,D,E,F,G,s,t,u⟩:=h.cells l m;have r:=h.free;cases a:(b.toList == [36,102])
 ·cases d:(b.toList == [36,101])
  ·cases k:(b.toList == [36,97])
   ·cases j:(b.toList == [36,112])
    ·have c:Xr (aJ w b=(14,w)):=(by show aJ w b=_;simp only[aJ,a,d,k,j];simp);go_enter func234,ntmps234;go_wp2;go_ret;exact⟨au (by rw[c.o]),H,by rw[c.o];exact h,aD.refl _ _ _⟩
    ·have c:Xr (aJ w b=(0,{ w with XU:=5 })):=(by show aJ w b=_;simp only[aJ,a,d,k,j];simp);have g:=h.XU l m 5;go_enter func234,ntmps234;go_wp2;go_ret;exact⟨au (by rw[c.o]),H,by rw[c.o];exact g.o.1,g.o.2⟩
   ·have c:Xr (aJ w b=(0,{ w with XU:=4 })):=(by show aJ w b=_;simp only[aJ,a,d,k];simp);have g:=h.XU l m 4;go_enter func234,ntmps234;go_wp2;go_ret;exact⟨au (by rw[c.o]),H,by rw[c.o];exact g.o.1,g.o.2⟩
  ·have c:Xr (aJ w b=(0,{ w with XU:=3 })):=(by show aJ w b=_;simp only[aJ,a,d];simp);have g:=h.XU l m 3;go_enter func234,ntmps234;go_wp2;go_ret;exact⟨au (by rw[c.o]),H,by rw[c.o];exact g.o.1,g.o.2⟩
 ·have c:Xr (aJ w b=(0,{ w with XU:=2 })):=by show aJ w b=_;simp only[aJ,a];simp
  have g:=h.XU l m 2;go_enter func234,ntmps234;go_wp2;go_ret;exact⟨au (by rw[c.o]),H,by rw[c.o];exact g.o.1,g.o.2⟩
theorem xj(h:aW i f n S x w H)(j:S.length=l) :
  Calls prog 236 #[pointer (some ⟨f,l,none⟩)] i fun e k=>e=returned (int i64 (cw w).1)/\∃d,aW k f n S x (cw w).2 d/\aD f i H k d:=by
 obtain⟨s,t,u,v,y,z,A,B,C,D,o,p,q⟩:=h.cells l j;have m:=h.free;by_cases b:w.Xz.length=0
 ·have a:Xr (cw w=(15,w)):=by show cw w=_;simp only[cw,b];simp
  have c:((w.Xz.length:Int)==0)=true:=by simp[b]
  clear b;go_enter func236,ntmps236;go_wp2;go_ret;exact⟨au (by rw[a.o]),H,by rw[a.o];exact h,aD.refl _ _ _⟩
 ·have a:Xr (cw w=(0,{ w with XD:=true })):=by show cw w=_;simp only[cw,b];simp
  have c:((w.Xz.length:Int)==0)=false:=TU.2 (by omega);have g:=h.XD l j true;clear b;go_enter func236,ntmps236;go_wp2;go_ret;exact⟨au (by rw[a.o]),H,by rw[a.o];exact g.o.1,g.o.2⟩
theorem zz(h:aW i f n S x w H)(d:S.length=l)(k:gF w 100000000)(g:b.size<=1073741824) :
  Calls prog 251 #[pointer (some ⟨f,l,none⟩),string b] i fun e K=>e=returned (int i64 (bV w b).1)/\∃t,aW K f n S x (bV w b).2 t/\aD f i H K t:=by
 obtain⟨z,A,B,C,D,E,F,G,I,J,m,o,p⟩:=h.cells l d;have j:=h.free;cases q:dD b
 ·cases s:iz b
  ·have a:Xr (bV w b=(12,w)):=(by show bV w b=_;simp[bV,q,s]);go_enter func251,ntmps251;go_wp2_with (first | (go_at_call 232;refine(fc b _ g).mono ?_;rintro e c ⟨rfl,rfl⟩) | (go_at_call 264;refine(oh b _ g).mono ?_;rintro e c ⟨rfl,rfl⟩) | (go_at_call 255;refine(mz f n l S x w H b _ (by exact h) d (k.mono (by omega))).mono ?_;rintro e c ⟨rfl,rfl⟩));go_ret;exact⟨au (by rw[a.o]),H,by rw[a.o];exact h,aD.refl _ _ _⟩
  ·cases y:eD w b
   ·have a:Xr (bV w b=(0,{ w with XH:=w.XH++[b],XV:=b,XU:=6 })):=(by show bV w b=_;simp[bV,q,s,y]);have N:=k.XH;go_enter func251,ntmps251;go_wp2_with (first | (go_at_call 232;refine(fc b _ g).mono ?_;rintro e c ⟨rfl,rfl⟩) | (go_at_call 264;refine(oh b _ g).mono ?_;rintro e c ⟨rfl,rfl⟩) | (go_at_call 255;refine(mz f n l S x w H b _ (by exact h) d (k.mono (by omega))).mono ?_;rintro e c ⟨rfl,rfl⟩));refine(AT f n l S x w H b _ (by exact h) d (by omega)).mono ?_;rintro e P ⟨rfl,L,r,M⟩;have v:=r.lab l d b;have u:=v.o.1.XU l d 6;clear z A B C D E F G I J m o p j;obtain⟨z,A,B,C,D,E,F,G,I,J,m,o,p⟩:=r.cells l d;have j:=r.free;go_wp2;go_ret;exact⟨au (by rw[a.o]),L,by rw[a.o];exact u.o.1,M.trans (v.o.2.trans u.o.2)⟩
   ·have a:Xr (bV w b=(13,w)):=(by show bV w b=_;simp[bV,q,s,y]);go_enter func251,ntmps251;go_wp2_with (first | (go_at_call 232;refine(fc b _ g).mono ?_;rintro e c ⟨rfl,rfl⟩) | (go_at_call 264;refine(oh b _ g).mono ?_;rintro e c ⟨rfl,rfl⟩) | (go_at_call 255;refine(mz f n l S x w H b _ (by exact h) d (k.mono (by omega))).mono ?_;rintro e c ⟨rfl,rfl⟩));go_ret;exact⟨au (by rw[a.o]),H,by rw[a.o];exact h,aD.refl _ _ _⟩
 ·have a:Xr (bV w b=(8,w)):=by show bV w b=_;simp[bV,q]
  go_enter func251,ntmps251;go_wp2_with (first | (go_at_call 232;refine(fc b _ g).mono ?_;rintro e c ⟨rfl,rfl⟩) | (go_at_call 264;refine(oh b _ g).mono ?_;rintro e c ⟨rfl,rfl⟩) | (go_at_call 255;refine(mz f n l S x w H b _ (by exact h) d (k.mono (by omega))).mono ?_;rintro e c ⟨rfl,rfl⟩));go_ret;exact⟨au (by rw[a.o]),H,by rw[a.o];exact h,aD.refl _ _ _⟩
theorem J0:1<=mQ w:=by unfold mQ;split <;> omega
theorem O6(h:aW i f n S x w H)(a:S.length=l)(Z:gF w 10000000) :
  Calls prog 235 #[pointer (some ⟨f,l,none⟩),agg #[string b,int i64 v,int i64 d]] i fun e U=>e=returned (int i64 (mu w ⟨b,v,d⟩).1)/\∃L,aW U f n S x (mu w ⟨b,v,d⟩).2 L/\aD f i H U L:=by
 obtain⟨W,r⟩:∃W,W=i.alloc (.cells #[string b,int i64 v,int i64 d] 36):=⟨_,rfl⟩
 have K:=fI r.symm;have D:=h.XE K;have u:Xr _:=r.symm;have B:=f9 r.symm;obtain⟨p0,p1,p2⟩:=wn B;clear r B h;obtain⟨z,A,C,E,F,G,I,J,R,T,p,c,q⟩:=D.cells l a;clear z A C E F G I J T q;have k:=D.free;by_cases j:(w.Xz.length:Int)<mQ w
 ·have g:Xr (mu w ⟨b,v,d⟩=(15,w)):=by show mu w ⟨b,v,d⟩=_;simp only[mu,if_pos j]
  go_enter func235,ntmps235;go_upto_region 1 with fail
  rw[u.o];go_quiet ((go_at_call 252;exact T0 (vl f n l S x w H _ (D.XE ((ae.refl [] W).drewN _)) a)));go_wp2;go_ret;exact⟨au (by rw[g.o]),H,by rw[g.o];exact D.XE (bR.drewN _),(aD.refl _ _ _).XE (K.drewN _)⟩
 ·have y:Xr (0<w.Xz.length):=by have:=J0 w;show 0<_;omega
  by_cases o:(w.XU==5)=true/\w.XD=false
  ·have g:Xr (mu w ⟨b,v,d⟩=(23,w)):=(by show mu w ⟨b,v,d⟩=_;simp only[mu,if_neg j,if_pos o]);obtain⟨s,X⟩:=o;rw[X]at c;go_enter func235,ntmps235;(go_upto_region 1 with fail);rw[u.o];go_quiet ((go_at_call 252;exact T0 (vl f n l S x w H _ (D.XE ((ae.refl [] W).drewN _)) a)));go_wp2;go_ret;exact⟨au (by rw[g.o]),H,by rw[g.o];exact D.XE (bR.drewN _),(aD.refl _ _ _).XE (K.drewN _)⟩
  ·have g:Xr (mu w ⟨b,v,d⟩=(0,{ aX w ⟨b,v,d⟩ with XU:=0,XV:=⟨#[]⟩,Xz:=[],XD:=false,XK:=[] })):=(by show mu w ⟨b,v,d⟩=_;simp only[mu,if_neg j,if_neg o]);have m:(w.XU==5)=true->w.XD=true:=by
    intro s;cases Y:w.XD with
    | true=>rfl
    | false=>exact absurd ⟨s,Y⟩ o
   cases s:(w.XU==5)
   all_goals
    try rw[m s]at c
    clear m;clear o;go_enter func235,ntmps235;(go_upto_region 1 with fail);rw[u.o];go_quiet ((go_at_call 252;exact T0 (vl f n l S x w H _ (D.XE ((ae.refl [] W).drewN _)) a)));go_wp2_with fail;refine(CU f n l S x w H b v d _ (by exact D.XE (bR.drewN _)) a y.o Z).mono ?_;rintro e w2 ⟨rfl,H2,t,V⟩;have M:=t.XU l a 0;have N:=M.o.1.lab l a ⟨#[]⟩;have O:Xr _:=N.o.1.forget l a;have P:=O.o.1.XD l a false;have Q:Xr _:=P.o.1.noProof l a;clear R p c k p0 p1 p2;obtain⟨z,A,C,E,F,G,I,J,R,T,p,c,q⟩:=t.cells l a;clear z A C E F G I J;have k:=t.free;go_wp2;go_ret;exact⟨au (by rw[g.o]),_,by rw[g.o];exact Q.o.1,(V.first (K.drewN _)).trans (M.o.2.trans (N.o.2.trans (O.o.2.trans (P.o.2.trans Q.o.2))))⟩
theorem sR{α:Type}{l:List α}{p:α}(h:l.getLast?=some p):l=l.dropLast++[p]:=by
 obtain⟨a,rfl⟩:=List.getLast?_eq_some_iff.1 h;simp
structure Cv(d:Db)(N:Nat):Prop where
 XX:∀p,p∈d.XW->p.1<=N/\p.2<=N
 same:d.rbl.length=d.XW.length
 recs:∀x,x∈d.rbl->x<=d.XQ.length
theorem zy(h:aW i f n S x w H)(s:S.length=l)(E:gF w 10000000)(hx:b.size<=1073741824)(J:Cv w 100000000) :
  Calls prog 233 #[pointer (some ⟨f,l,none⟩),string b] i fun e U=>e=returned (int i64 (ay w b).1)/\∃P,aW U f n S x (ay w b).2 P/\aD f i H U P:=by
 have k:=E.mono (M:=100000000) (by omega);obtain⟨q0,q1,q2,q3,q4,q5,q6,q7,q8,q9,ad,af,ag⟩:=h.cells l s;have ac:=h.free;cases a:(b.toList == [36,123])
 ·cases d:(b.toList == [36,125])
  ·cases o:(b.toList == [36,99])
   ·cases j:(b.toList == [36,118])
    ·cases m:(b.toList == [36,100])
     ·cases q:(b.toList == [36,102])
      ·cases r:(b.toList == [36,101])
       ·cases v:(b.toList == [36,97])
        ·cases u:(b.toList == [36,112])
         ·have c:Xr (ay w b=bV w b):=(by show ay w b=_;simp only[ay,a,d,o,j,m,q,r,v,u];simp);go_enter func233,ntmps233;go_wp2_with fail;refine(zz f n l S x w H b _ (by exact h) s k hx).mono ?_;rintro e V ⟨rfl,G,B,C⟩;go_wp2;go_ret;exact⟨au (by rw[c.o]),G,by rw[c.o];exact B,C⟩
         ·have c:Xr (ay w b=(11,w)):=(by show ay w b=_;simp only[ay,a,d,o,j,m,q,r,v,u];simp);go_enter func233,ntmps233;go_wp2;go_ret;exact⟨au (by rw[c.o]),H,by rw[c.o];exact h,aD.refl _ _ _⟩
        ·have c:Xr (ay w b=(11,w)):=(by show ay w b=_;simp only[ay,a,d,o,j,m,q,r,v];simp);go_enter func233,ntmps233;go_wp2;go_ret;exact⟨au (by rw[c.o]),H,by rw[c.o];exact h,aD.refl _ _ _⟩
       ·have c:Xr (ay w b=(11,w)):=(by show ay w b=_;simp only[ay,a,d,o,j,m,q,r];simp);go_enter func233,ntmps233;go_wp2;go_ret;exact⟨au (by rw[c.o]),H,by rw[c.o];exact h,aD.refl _ _ _⟩
      ·have c:Xr (ay w b=(11,w)):=(by show ay w b=_;simp only[ay,a,d,o,j,m,q];simp);go_enter func233,ntmps233;go_wp2;go_ret;exact⟨au (by rw[c.o]),H,by rw[c.o];exact h,aD.refl _ _ _⟩
     ·have c:Xr (ay w b=(0,{ w with XU:=1 })):=(by show ay w b=_;simp only[ay,a,d,o,j,m];simp);have t:=h.XU l s 1;go_enter func233,ntmps233;go_wp2;go_ret;exact⟨au (by rw[c.o]),H,by rw[c.o];exact t.o.1,t.o.2⟩
    ·have c:Xr (ay w b=(0,{ w with XU:=8 })):=(by show ay w b=_;simp only[ay,a,d,o,j];simp);have t:=h.XU l s 8;go_enter func233,ntmps233;go_wp2;go_ret;exact⟨au (by rw[c.o]),H,by rw[c.o];exact t.o.1,t.o.2⟩
   ·by_cases g:0<w.XW.length
    ·have c:Xr (ay w b=(10,w)):=(by show ay w b=_;simp only[ay,a,d,o,g];simp);have z:decide (0<w.XW.length)=true:=(by simpa using g);clear g;go_enter func233,ntmps233;go_wp2_with (go_at_call 208;refine(mx f n l S x w H _ (by exact h) s).mono ?_;rintro e O ⟨rfl,rfl⟩);go_ret;exact⟨au (by rw[c.o]),H,by rw[c.o];exact h,aD.refl _ _ _⟩
    ·have c:Xr (ay w b=(0,{ w with XU:=7 })):=(by show ay w b=_;simp only[ay,a,d,o,g];simp);have z:decide (0<w.XW.length)=false:=(by simpa using g);have t:=h.XU l s 7;clear g;go_enter func233,ntmps233;go_wp2_with (go_at_call 208;refine(mx f n l S x w H _ (by exact h) s).mono ?_;rintro e O ⟨rfl,rfl⟩);go_ret;exact⟨au (by rw[c.o]),H,by rw[c.o];exact t.o.1,t.o.2⟩
  ·rcases hbb:w.XW.getLast? with _ | p
   ·have g:w.XW=[]:=(by simpa using hbb);have c:Xr (ay w b=(9,w)):=(by show ay w b=_;simp only[ay,a,d,hbb];simp);have z:decide (0<w.XW.length)=false:=(by rw[g];rfl);clear hbb g;go_enter func233,ntmps233;go_wp2_with (go_at_call 208;refine(mx f n l S x w H _ (by exact h) s).mono ?_;rintro e O ⟨rfl,rfl⟩);go_ret;exact⟨au (by rw[c.o]),H,by rw[c.o];exact h,aD.refl _ _ _⟩
   ·have g:w.XW=w.XW.dropLast++[p]:=sR hbb;have c:Xr (ay w b=(0,cU w p)):=(by show ay w b=_;simp only[ay,a,d,hbb];simp);have z:decide (0<w.XW.length)=true:=(by rw[g];simp);have X:Xr (w.XW=w.XW.dropLast++[p]):=g;have hp:=J.XX p (by rw[g];simp);have D:w.rbl≠[]:=(by intro e;have:=J.same;rw[e,g]at this;simp at this);obtain⟨y,K⟩:∃y,w.rbl.getLast?=some y:=⟨_,VC D⟩
    have Q:Xr (w.rbl=w.rbl.dropLast++[y]):=sR K;have L:=J.recs y (by rw[Q.o];simp);have Y:Xr (cU w p={ dx w w.XW.dropLast p with rbl:=w.rbl.dropLast,XQ:=kE w.XQ y }):=(by show cU w p=_;unfold cU;rw[K]);have A:Xr (gF (dx w w.XW.dropLast p) 100000000):=⟨k.XH,k.XB,k.XC,by have:=k.XI;simp only[dx,List.length_take];omega,by have:=k.XL;simp only[dx,List.length_take];omega,by have:=k.XW;simp only[dx,List.length_dropLast];omega,k.XQ,k.rbl,k.Xz,k.XK⟩;clear hbb g D K;go_enter func233,ntmps233;go_wp2_with (go_at_call 208;refine(mx f n l S x w H _ (by exact h) s).mono ?_;rintro e O ⟨rfl,rfl⟩);refine(Bg f n l S x w H w.XW.dropLast p _ (by exact h) s X.o (k.mono (by omega)) ⟨by omega,by omega⟩).mono ?_;rintro e V ⟨rfl,B,C⟩;go_wp2_with fail;refine(Gf f n l S x (dx w w.XW.dropLast p) H w.rbl.dropLast y _ (by exact B) s Q.o A.o L).mono ?_;rintro e w3 ⟨rfl,F,I⟩;go_wp2;go_ret;exact⟨au (by rw[c.o]),H,by rw[c.o,Y.o];exact F,C.trans I⟩
 ·have c:Xr (ay w b=(0,{ w with XW:=w.XW++[(w.XI.length,w.XL.length)],rbl:=w.rbl++[w.XQ.length] })):=by show ay w b=_;simp only[ay,a];simp
  have Z:=k.XW;have A:Xr (gF { w with XW:=w.XW++[(w.XI.length,w.XL.length)] } 100000000):=⟨k.XH,k.XB,k.XC,k.XI,k.XL,by have:=E.XW;simp;omega,k.XQ,k.rbl,k.Xz,k.XK⟩;go_enter func233,ntmps233;go_wp2_with fail;refine(xi f n l S x w H _ (by exact h) s (by omega)).mono ?_;rintro e V ⟨rfl,G,B,C⟩;go_wp2_with fail;refine(BQ f n l S x { w with XW:=w.XW++[(w.XI.length,w.XL.length)] } G _ (by exact B) s A.o).mono ?_;rintro e w3 ⟨rfl,W,F,I⟩;go_wp2;go_ret;exact⟨au (by rw[c.o]),W,by rw[c.o];exact F,C.trans I⟩
theorem JG(h:(b.toList == [36,61])=true):dD b=true:=by
 have:b=⟨#[36,61]⟩:=Jz (by rw[ByteArray.toList_mk [36,61]];simpa using h);rw[this];decide +kernel
theorem Lc(l:List (Xs×Pl))(p:Xs×Pl):(⟨(iB l).e,(iB l).size,(iB l).n+1,(iB l).xs++sx p⟩:eR)=iB (l++[p]):=by
 simp[iB,oG]
def i8(b t o:Nat)(pre post:List Value)(d:Db)(H:Nat->Hd)(x f:Xs)(l c:Int)(w:World):Prop :=
 Calls prog 207 #[pointer (some ⟨b,o,none⟩),string x,agg #[string f,int i64 l,int i64 c]] w fun e w'=>e=returned (int i64 (aZ d x ⟨f,l,c⟩).1)/\∃H',aW w' b t pre post (aZ d x ⟨f,l,c⟩).2 H'/\aD b w H w' H'
theorem boxed(h:aW o a g L m k D)(f:Xs)(l c:Int) :
  ∃W,Xr (o.alloc (.cells #[string f,int i64 l,int i64 c] 36)=W)/\ae [] o W/\aW W a g L m k D/\W.cell? ⟨o.heap.size,0,none⟩=some (string f)/\W.cell? ⟨o.heap.size,1,none⟩=some (int i64 l)/\W.cell? ⟨o.heap.size,2,none⟩=some (int i64 c):=by
 have B:(o.alloc (.cells #[string f,int i64 l,int i64 c] 36)).heap[o.heap.size]?=some (.cells #[string f,int i64 l,int i64 c] 36):=Tu _ _;refine⟨_,rfl,bR.alloc _,h.XE (bR.alloc _),?_,?_,?_⟩ <;> rw[ah B] <;> rfl
theorem Eo(h:aW i f n S x w H)(A:S.length=l)(r:gF w 10000000)(Z:y.size<=1073741824)(P:(w.XU==0)=false)(k1:(w.XU==6)=false)(o:(y.toList == [36,46])=false)(p:(y.toList == [36,61])=false)(V:dD y=false)(J:w.XD=false) :
  i8 f n l S x w H y b v d i:=by
 unfold i8;have X:=r.mono (M:=1073741824) (by omega);obtain⟨W,U,K,D,p0,p1,p2⟩:=boxed h b v d;clear h;obtain⟨q0,q1,q2,q3,q4,q5,q6,q7,q8,q9,Q,t,R⟩:=D.cells l A;clear q0 q1 q2 q3 q4 q5 q6 q7 q9 R;have G:=D.free;rw[J]at t;cases E:(bi w y==0)
 ·have k:Xr (aZ w y ⟨b,v,d⟩=(bi w y,w)):=by show aZ w y ⟨b,v,d⟩=_;simp[aZ,P,k1,o,p,V,J,E]
  go_enter func207,ntmps207;go_upto_region 1 with fail
  rw[U.o];go_wp2_with (first | (go_at_call 232;refine(fc y _ Z).mono ?_;rintro e B ⟨rfl,rfl⟩) | (go_at_call 237;refine(p9 f n l S x w H y _ (by exact D) A X).mono ?_;rintro e B ⟨rfl,rfl⟩));go_ret;exact⟨au (by rw[k.o]),H,by rw[k.o];exact D,(aD.refl _ _ _).XE K⟩
 ·have k:Xr (aZ w y ⟨b,v,d⟩=(0,{ w with Xz:=w.Xz++[y] })):=by show aZ w y ⟨b,v,d⟩=_;simp[aZ,P,k1,o,p,V,J,E]
  have F:Xr (bi w y=0):=(show bi w y=0 by simpa using E);have ad:=r.Xz;obtain⟨i0,I,L,N,O⟩:=TZ kg;have C:=D.XE ((ae.refl [] W).alloc (.cells #[string y] 9));have c:=C.X9 8;have ac:=D.lt;go_enter func207,ntmps207;go_upto_region 1 with fail
  rw[U.o];go_wp2_with (first | (go_at_call 232;refine(fc y _ Z).mono ?_;rintro e B ⟨rfl,rfl⟩) | (go_at_call 237;refine(p9 f n l S x w H y _ (by exact D) A X).mono ?_;rintro e B ⟨rfl,rfl⟩) | (at_builtin;refine aL _ rfl (.tmp 74) (.tmp 76) 61 rfl i0 (string ⟨#[]⟩) 16 (H 8) (aE w.Xz) underlying61 I L N O rfl TR rfl (by exact c) ⟨_,0,none⟩ 1 1 [string y] rfl rfl ?c1 ?c2 TR ?c3 ?c4 ?_))
  case c1=>intro j u z;match j,z with | 0,z=>simp at z;subst z;simp[Addr.add]
  case c2=>intro u Y;simp at Y;subst Y;rfl
  case c3=>simp only[aE];unfold maxLen;omega
  case c4=>simp only[aE];omega
  intro g m B s q a;obtain⟨P,f0,T⟩:=C.app (d':={ w with Xz:=w.Xz++[y] }) l 10 A 8 (by omega) g m ((aE w.Xz).n+1) _ s (dX w.Xz y) q (by simpa using a) (uy w H _) (by omega) _ rfl (by simp[cK,iJ,aE]);clear C c q8 Q t s q a G;go_wp2;go_ret;exact⟨au (by rw[k.o,F.o]),_,by rw[k.o];exact T.o.1,T.o.2.first (K.alloc _)⟩
theorem zA(h:aW i f n S x w H)(G:S.length=l)(r:gF w 10000000)(U:y.size<=1073741824)(X:(w.XU==0)=false)(Y:(w.XU==6)=false)(o:(y.toList == [36,46])=false)(p:(y.toList == [36,61])=false)(O:dD y=false)(I:w.XD=true) :
  i8 f n l S x w H y b v d i:=by
 unfold i8;obtain⟨W,L,K,D,p0,p1,p2⟩:=boxed h b v d;clear h;obtain⟨Z,q1,q2,q3,q4,q5,q6,q7,q8,q9,A,B,ac⟩:=D.cells l G;clear Z q1 q2 q3 q4 q5 q6 q7 q9 A;have P:=D.free;rw[I]at B;have E:Xr (aZ w y ⟨b,v,d⟩=(0,{ w with XK:=w.XK++[(y,⟨b,v,d⟩)] })):=by show aZ w y ⟨b,v,d⟩=_;simp[aZ,X,Y,o,p,O,I]
 have T:=r.XK;obtain⟨V,q,s,t,z⟩:=TZ QK;have N:=D.lt;have F:Xr (aW (W.alloc (.cells #[string y,string b,int i64 v,int i64 d] 229)).drew f n S x w H):=D.XE ((ae.refl [] W).alloc _).drew;have s2:Xr (∀j u,(sx (y,⟨b,v,d⟩))[j]?=some u->(W.alloc (.cells #[string y,string b,int i64 v,int i64 d] 229)).drew.cell? ((⟨W.heap.size,0,none⟩:Addr).add j)=some u):=by
  intro j u Q;have R:(W.alloc (.cells #[string y,string b,int i64 v,int i64 d] 229)).drew.heap[W.heap.size]?=some (.cells #[string y,string b,int i64 v,int i64 d] 229):=Tu _ _;rw[bY,ah R];simpa [sx] using Q
 have s3:Xr (∀u∈sx (y,⟨b,v,d⟩),u.oneCell'=true):=by
  intro u J;simp only[sx,List.mem_cons,List.not_mem_nil,or_false]at J;rcases J with rfl | rfl | rfl | rfl <;> rfl
 have s4:Xr ((iB w.XK).n+1<=maxLen):=by show _<=_;simp only[iB];unfold maxLen;omega
 have s5:Xr (((iB w.XK).n+1)*48<=140737488355328):=by show _<=_;simp only[iB];omega
 go_enter func207,ntmps207;go_upto_region 1 with fail
 rw[L.o];go_wp2_with (go_at_call 232;refine(fc y _ U).mono ?_;rintro e w1 ⟨rfl,rfl⟩);go_region_law (refine dd rfl (.tmp 57) (.tmp 61) 156 rfl V (agg #[string ⟨#[]⟩,string ⟨#[]⟩,int i64 0,int i64 0]) 48 (H 9) (iB w.XK) underlying156 q s t z rfl (WS 3) (by simp[Act.eval] <;> rfl) (F.o.X9 9) ⟨_,0,none⟩ 1 1 (sx (y,⟨b,v,d⟩)) (by simp[Act.eval] <;> rfl) rfl s2.o s3.o TR s4.o s5.o ?_;intro g c w1 m k a;obtain⟨k5,f5,C⟩:=F.o.app (d':={ w with XK:=w.XK++[(y,⟨b,v,d⟩)] }) l 12 G 9 (by omega) g c ((iB w.XK).n+1) _ m (Lc w.XK (y,⟨b,v,d⟩)) k (by simpa using a) (yB w H _) (by omega) _ rfl (by simp[cK,iJ,iB]);clear m k a)
 all_goals go_wp2
 all_goals go_ret
 all_goals exact⟨au (by rw[E.o]),_,by rw[E.o];exact C.o.1,C.o.2.first (K.trans (bR.alloc _).drew)⟩
theorem GD(h:aW i f n S x w H)(t:S.length=l)(u:y.size<=1073741824)(o:(w.XU==0)=false)(p:(w.XU==6)=false)(c:(y.toList == [36,46])=false)(g:(y.toList == [36,61])=true) :
  i8 f n l S x w H y b v d i:=by
 unfold i8;obtain⟨W,m,K,D,R,T,U⟩:=boxed h b v d;clear h;obtain⟨F,G,I,J,L,M,N,O,V,P,q,j,r⟩:=D.cells l t;clear F G I J L M N O P q r;have E:=D.free;have s:=JG y g;cases z:(w.XU==5)
 ·have a:Xr (aZ w y ⟨b,v,d⟩=(8,w)):=by show aZ w y ⟨b,v,d⟩=_;simp[aZ,o,p,c,z,s]
  go_enter func207,ntmps207;go_upto_region 1 with fail
  rw[m.o];go_wp2_with (go_at_call 232;refine(fc y _ u).mono ?_;rintro e Q ⟨rfl,rfl⟩);go_ret;exact⟨au (by rw[a.o]),H,by rw[a.o];exact D,(aD.refl _ _ _).XE K⟩
 ·cases k:w.XD
  ·have a:Xr (aZ w y ⟨b,v,d⟩=cw w):=(by show aZ w y ⟨b,v,d⟩=_;simp only[aZ,o,p,c,g,z,k];simp);rw[k]at j;go_enter func207,ntmps207;(go_upto_region 1 with fail);rw[m.o];go_wp2_with fail;refine(xj f n l S x w H _ (by exact D) t).mono ?_;rintro e X ⟨rfl,B,A,C⟩;go_wp2;go_ret;exact⟨au (by rw[a.o]),B,by rw[a.o];exact A,C.first K⟩
  ·have a:Xr (aZ w y ⟨b,v,d⟩=(8,w)):=(by show aZ w y ⟨b,v,d⟩=_;simp[aZ,o,p,c,k,s]);rw[k]at j;go_enter func207,ntmps207;(go_upto_region 1 with fail);rw[m.o];go_wp2_with (go_at_call 232;refine(fc y _ u).mono ?_;rintro e Q ⟨rfl,rfl⟩);go_ret;exact⟨au (by rw[a.o]),H,by rw[a.o];exact D,(aD.refl _ _ _).XE K⟩
theorem Oj(h:aW i f n S x w H)(m:S.length=l)(N:gF w 10000000)(L:y.size<=1073741824)(M:Cv w 100000000) :
  i8 f n l S x w H y b v d i:=by
 cases q:(w.XU==0)
 ·cases F:(w.XU==6)
  ·cases k:(y.toList == [36,46])
   ·cases o:(y.toList == [36,61])
    ·cases O:dD y
     ·cases U:w.XD
      ·exact Eo f n l S x w H y b v d i h m N L q F k o O U
      ·exact zA f n l S x w H y b v d i h m N L q F k o O U
     ·unfold i8;obtain⟨W,p,K,D,P,Q,R⟩:=boxed h b v d;clear h M;obtain⟨r,s,t,u,z,A,B,C,T,E,a,g,c⟩:=D.cells l m;clear r s t u z A B C E a c;have j:Xr (aZ w y ⟨b,v,d⟩=(8,w)):=(by show aZ w y ⟨b,v,d⟩=_;simp[aZ,q,F,k,o,O]);go_enter func207,ntmps207;(go_upto_region 1 with fail);rw[p.o];go_wp2_with (go_at_call 232;refine(fc y _ L).mono ?_;rintro e X ⟨rfl,rfl⟩);go_ret;exact⟨au (by rw[j.o]),H,by rw[j.o];exact D,(aD.refl _ _ _).XE K⟩
    ·exact GD f n l S x w H y b v d i h m L q F k o
   ·unfold i8;obtain⟨W,p,K,D,P,Q,R⟩:=boxed h b v d;clear h M;obtain⟨r,s,t,u,z,A,B,C,T,E,a,g,c⟩:=D.cells l m;clear r s t u z A B C E a g c;have j:Xr (aZ w y ⟨b,v,d⟩=mu w ⟨b,v,d⟩):=(by show aZ w y ⟨b,v,d⟩=_;simp only[aZ,q,F,k];simp);go_enter func207,ntmps207;(go_upto_region 1 with fail);rw[p.o];go_wp2_with fail;refine(O6 f n l S x w H b v d _ (by exact D) m N).mono ?_;rintro e V ⟨rfl,I,G,J⟩;go_wp2;go_ret;exact⟨au (by rw[j.o]),I,by rw[j.o];exact G,J.first K⟩
  ·unfold i8;obtain⟨W,p,K,D,P,Q,R⟩:=boxed h b v d;clear h M;obtain⟨r,s,t,u,z,A,B,C,T,E,a,g,c⟩:=D.cells l m;clear r s t u z A B C E a g c;have j:Xr (aZ w y ⟨b,v,d⟩=aJ w y):=(by show aZ w y ⟨b,v,d⟩=_;simp only[aZ,q,F];simp);go_enter func207,ntmps207;(go_upto_region 1 with fail);rw[p.o];go_wp2_with fail;refine(wC f n l S x w H y _ (by exact D) m).mono ?_;rintro e V ⟨rfl,I,G,J⟩;go_wp2;go_ret;exact⟨au (by rw[j.o]),I,by rw[j.o];exact G,J.first K⟩
 ·unfold i8;obtain⟨W,p,K,D,P,Q,R⟩:=boxed h b v d;clear h;obtain⟨r,s,t,u,z,A,B,C,T,E,a,g,c⟩:=D.cells l m;clear r s t u z A B C E a g c;have j:Xr (aZ w y ⟨b,v,d⟩=ay w y):=by show aZ w y ⟨b,v,d⟩=_;simp only[aZ,q];simp
  go_enter func207,ntmps207;go_upto_region 1 with fail
  rw[p.o];go_wp2_with fail;refine(zy f n l S x w H y _ (by exact D) m N L M).mono ?_;rintro e V ⟨rfl,I,G,J⟩;go_wp2;go_ret;exact⟨au (by rw[j.o]),I,by rw[j.o];exact G,J.first K⟩
def fT:Db:=⟨[],[],[],[],[],[],[],[],0,⟨#[]⟩,[],false,[]⟩
abbrev pu:=Int×Pl
def cZ:pu:=(0,⟨⟨#[]⟩,0,0⟩)
def iw(f:pu):Value:=agg #[int i64 f.1,string f.2.XZ,int i64 f.2.X0,int i64 f.2.X3]
def lq(n s:Xs)(p:Nat):Pl:=⟨n,aU s p,bJ s p⟩
def jx(n s:Xs)(i:tC):pu:=(if i.XY=true then 7 else i.X6,lq n s i.pos)
abbrev G7:=pu×List Bool×Db
def sP(fs:Fs)(x z:Nat)(p:Pl)(d:Db):pu ⊕ (Nat×Nat) :=
  if lM d=true then .inl (4,p)
  else if aM (aC (ak fs x) z).1=false then .inl (jx (aG fs x) (ak fs x) (aC (ak fs x) z).1)
  else if dD (aC (ak fs x) z).1.text=true then .inl (5,lq (aG fs x) (ak fs x) (aC (ak fs x) z).1.pos)
  else if bU fs (aC (ak fs x) z).1.text<0 then .inl (6,lq (aG fs x) (ak fs x) (aC (ak fs x) z).1.pos)
  else if aM (aC (ak fs x) (aC (ak fs x) z).2).1=false then .inl (jx (aG fs x) (ak fs x) (aC (ak fs x) (aC (ak fs x) z).2).1)
  else if((aC (ak fs x) (aC (ak fs x) z).2).1.text.toList == [36,93])=false then .inl (5,lq (aG fs x) (ak fs x) (aC (ak fs x) (aC (ak fs x) z).2).1.pos)
  else .inr ((bU fs (aC (ak fs x) z).1.text).toNat,(aC (ak fs x) (aC (ak fs x) z).2).2)
def oe(rf:Nat->List Bool->Db->G7)(fs:Fs)(x z:Nat)(p:Pl)(bg:List Bool)(d:Db):G7×Nat :=
  match sP fs x z p d with
  | .inl f=>((f,bg,d),z)
  | .inr (j,z')=>(rf j bg d,z')
def kt(rf:Nat->List Bool->Db->G7)(fs:Fs)(x z:Nat)(t:Xs)(p:Pl)(bg:List Bool)(d:Db):G7×Nat :=
  if(t.toList == [36,91])=true then oe rf fs x z p bg d
  else((if((aZ d t p).1==0)=true then cZ else((aZ d t p).1,p),bg,(aZ d t p).2),z)
def bH(fs:Fs):Nat->Nat->Nat->List Bool->Db->G7
  | 0,_,_,bg,d=>(cZ,bg,d)
  | f+1,x,k,bg,d =>
    if aM (aC (ak fs x) k).1=true then
      (if((kt (fun j bg d=>if bg.getD j true=true then(cZ,bg,d) else bH fs f j 0 (bg.set j true) d) fs x (aC (ak fs x) k).2 (aC (ak fs x) k).1.text (lq (aG fs x) (ak fs x) (aC (ak fs x) k).1.pos) bg d).1.1.1==0)=true
       then bH fs f x (kt (fun j bg d=>if bg.getD j true=true then(cZ,bg,d) else bH fs f j 0 (bg.set j true) d) fs x (aC (ak fs x) k).2 (aC (ak fs x) k).1.text (lq (aG fs x) (ak fs x) (aC (ak fs x) k).1.pos) bg d).2
          (kt (fun j bg d=>if bg.getD j true=true then(cZ,bg,d) else bH fs f j 0 (bg.set j true) d) fs x (aC (ak fs x) k).2 (aC (ak fs x) k).1.text (lq (aG fs x) (ak fs x) (aC (ak fs x) k).1.pos) bg d).1.2.1
          (kt (fun j bg d=>if bg.getD j true=true then(cZ,bg,d) else bH fs f j 0 (bg.set j true) d) fs x (aC (ak fs x) k).2 (aC (ak fs x) k).1.text (lq (aG fs x) (ak fs x) (aC (ak fs x) k).1.pos) bg d).1.2.2
       else(kt (fun j bg d=>if bg.getD j true=true then(cZ,bg,d) else bH fs f j 0 (bg.set j true) d) fs x (aC (ak fs x) k).2 (aC (ak fs x) k).1.text (lq (aG fs x) (ak fs x) (aC (ak fs x) k).1.pos) bg d).1)
    else if(aC (ak fs x) k).1.XY=true/\lM d=false then(cZ,bg,d) else(jx (aG fs x) (ak fs x) (aC (ak fs x) k).1,bg,d)
def cW(fs:Fs)(f:Nat)(j:Nat)(bg:List Bool)(d:Db):G7 :=
  if bg.getD j true=true then(cZ,bg,d) else bH fs f j 0 (bg.set j true) d
def ia(fs:Fs)(f x k:Nat)(bg:List Bool)(d:Db):G7×Nat :=
  kt (cW fs f) fs x (aC (ak fs x) k).2 (aC (ak fs x) k).1.text (lq (aG fs x) (ak fs x) (aC (ak fs x) k).1.pos) bg d
theorem zU(a:aM (aC (ak T n) l).1=true)(b:((ia T f n l I w).1.1.1==0)=true) :
    bH T (f+1) n l I w=bH T f n (ia T f n l I w).2 (ia T f n l I w).1.2.1 (ia T f n l I w).1.2.2:=by
  rw[bH,Tr a];exact Tr b
theorem pD(a:aM (aC (ak T n) l).1=true)(b:((ia T f n l I w).1.1.1==0)=false) :
    bH T (f+1) n l I w=(ia T f n l I w).1:=by
  rw[bH,Tr a];exact Tp (fun c=>Bool.noConfusion (b.symm.trans c))
theorem Bm(a:aM (aC (ak T n) l).1=false)(b:(aC (ak T n) l).1.XY=true)(c:lM w=false) :
    bH T (f+1) n l I w=(cZ,I,w):=by
  rw[bH,Tp (by simp[a]),Tr ⟨b,c⟩]
theorem xJ(a:aM (aC (ak T n) l).1=false)(b:¬((aC (ak T n) l).1.XY=true/\lM w=false)) :
    bH T (f+1) n l I w=(jx (aG T n) (ak T n) (aC (ak T n) l).1,I,w):=by
  rw[bH,Tp (by simp[a]),Tp b]
theorem kU{i:tC}(h:aM i=false)(a:i.XY=false):(i.X6==0)=false:=by
  simp[aM,a]at h;simpa using h
structure oI(d:Db)(m:Nat):Prop where
  XH:d.XH.length<=m
  XB:d.XB.length+d.Xz.length<=m
  XC:d.XC.length+d.Xz.length<=m
  XI:d.XI.length+d.Xz.length<=m
  XL:d.XL.length+d.Xz.length<=m
  XW:d.XW.length<=m
  XQ:d.XQ.length<=m
  XK:d.XK.length<=m
  inner:∀p,p∈d.XW->p.1<=m/\p.2<=m
  same:d.rbl.length=d.XW.length
  recs:∀x,x∈d.rbl->x<=d.XQ.length
theorem oI.small{N:Nat}(h:oI k a)(c:a<=N):gF k N/\Cv k N :=
  ⟨⟨by have:=h.XH;omega,by have:=h.XB;omega,by have:=h.XC;omega,by have:=h.XI;omega,by have:=h.XL;omega,by have:=h.XW;omega,by have:=h.XQ;omega,by have:=h.XW;have:=h.same;omega,by have:=h.XB;omega,by have:=h.XK;omega⟩,
   ⟨fun p b=>by have:=h.inner p b;omega,h.same,h.recs⟩⟩
theorem oI.mono{m':Nat}(h:oI k a)(c:a<=m'):oI k m' :=
  ⟨by have:=h.XH;omega,by have:=h.XB;omega,by have:=h.XC;omega,by have:=h.XI;omega,by have:=h.XL;omega,by have:=h.XW;omega,by have:=h.XQ;omega,by have:=h.XK;omega,fun p b=>by have:=h.inner p b;omega,h.same,h.recs⟩
theorem oI.empty:oI fT 0:=by
  refine⟨?_,?_,?_,?_,?_,?_,?_,?_,?_,?_,?_⟩ <;> simp[fT]
theorem oI.plain(h:oI k a)(c:Int)(l:Xs)(b:Bool):oI { k with XU:=c,XV:=l,XD:=b } a:=⟨h.XH,h.XB,h.XC,h.XI,h.XL,h.XW,h.XQ,h.XK,h.inner,h.same,h.recs⟩
theorem xv(l:List St)(b:Nat):(kE l b).length=l.length:=kQ l b l.length
theorem oI.declare(h:oI k a)(p:Pl):oI { aX k p with XU:=0,XV:=⟨#[]⟩,Xz:=[],XD:=false,XK:=[] } (a+1):=by
  have e:=h.XB;have f:=h.XC;have g:=h.XI;have i:=h.XL;have b:=h.mono (Wq a);unfold aX;split
  · exact⟨b.XH,by simp;omega,by simp;omega,by simp;omega,by simp;omega,b.XW,b.XQ,by simp,b.inner,b.same,b.recs⟩
  · split
    · have:=ED k.XC (k.Xz.take k.Xz.length)
      simp only[List.take_length]at this;exact⟨b.XH,by simp[eF];omega,by simp[eF];omega,by simp[eF];omega,by simp[eF];omega,b.XW,b.XQ,by simp,b.inner,b.same,b.recs⟩
    · unfold nX nG
      have:=h.XQ;split
      · next j=>exact⟨b.XH,by simp;omega,by simp;omega,by simp;omega,by simp;omega,b.XW,by simp;omega,by simp,b.inner,b.same,fun x c=>by have:=h.recs x c;simp;omega⟩
      · exact⟨b.XH,by simp;omega,by simp;omega,by simp;omega,by simp;omega,b.XW,by simp;omega,by simp,b.inner,b.same,fun x c=>by have:=h.recs x c;simp;omega⟩
theorem oI.take(h:oI k a)(x:Xs)(o:Pl):oI (aZ k x o).2 (a+1):=by
  have b:=h.mono (Wq a);have c:=fun r=>b.plain r k.XV k.XD;have s:=h.XH;have t:=h.XB;have u:=h.XC;have v:=h.XI;have w:=h.XL;have z:=h.XW;have l:oI (bV k x).2 (a+1):=by
    unfold bV;split
    · exact b
    · split
      · exact b
      · split
        · exact b
        · exact⟨by simp;omega,b.XB,b.XC,b.XI,b.XL,b.XW,b.XQ,b.XK,b.inner,b.same,b.recs⟩
  have j:oI (aJ k x).2 (a+1):=by
    unfold aJ;split
    · exact c 2
    · split
      · exact c 3
      · split
        · exact c 4
        · split
          · exact c 5
          · exact b
  have i:oI (ay k x).2 (a+1):=by
    unfold ay;split
    · refine⟨b.XH,b.XB,b.XC,b.XI,b.XL,by simp;omega,b.XQ,b.XK,?_,by simp[h.same],?_⟩
      · intro p d
        simp only[List.mem_append,List.mem_singleton]at d;rcases d with d | rfl
        · exact b.inner p d
        · simp only;omega
      · intro y f
        simp only[List.mem_append,List.mem_singleton]at f;rcases f with f | rfl
        · exact h.recs y f
        · exact Tq _
    · split
      · split
        · exact b
        · next p d =>
          unfold cU;have n:k.rbl≠[]:=by
            intro e;have:=h.same;rw[e,sR d]at this;simp at this
          obtain⟨y,f⟩:∃y,k.rbl.getLast?=some y:=⟨_,VC n⟩
          rw[f];refine⟨b.XH,b.XB,b.XC,?_,?_,?_,?_,b.XK,?_,?_,?_⟩
          · simp only[dx,List.length_take];omega
          · simp only[dx,List.length_take];omega
          · simp only[dx,List.length_dropLast];omega
          · show(kE k.XQ y).length<=_;rw[xv];exact b.XQ
          · intro q m
            simp only[dx]at m;exact b.inner q (WJ _ m)
          · simp only[dx,List.length_dropLast,h.same]
          · intro q m
            show q<=(kE k.XQ y).length;rw[xv];exact h.recs q (WJ _ m)
      · split
        · split
          · exact b
          · exact c 7
        · split
          · exact c 8
          · split
            · exact c 1
            · split
              · exact b
              · exact l
  have g:oI (mu k o).2 (a+1):=by
    unfold mu;split
    · exact b
    · split
      · exact b
      · exact h.declare o
  unfold aZ;split
  · exact i
  · split
    · exact j
    · split
      · exact g
      · split
        · unfold cw
          split
          · exact b
          · exact b.plain k.XU k.XV true
        · split
          · exact b
          · split
            · exact⟨b.XH,b.XB,b.XC,b.XI,b.XL,b.XW,b.XQ,by have:=h.XK;simp;omega,b.inner,b.same,b.recs⟩
            · split
              · exact⟨b.XH,by simp;omega,by simp;omega,by simp;omega,by simp;omega,b.XW,b.XQ,b.XK,b.inner,b.same,b.recs⟩
              · exact b
def OJ(fs:Fs)(bg:List Bool)(j:Nat):Nat:=if bg.getD j true=true then 0 else(ak fs j).size+2
def eS(fs:Fs)(bg:List Bool):Nat:=OJ fs bg 0+OJ fs bg 1+OJ fs bg 2+OJ fs bg 3
theorem xW(f:I.length=4)(e:I.getD s true=false):eS T (I.set s true)+(ak T s).size+2=eS T I:=by
  match I,f with
  | [a,b,c,d],_ =>
    match s with
    | 0=>simp at e;subst e;simp[eS,OJ];omega
    | 1=>simp at e;subst e;simp[eS,OJ];omega
    | 2=>simp at e;subst e;simp[eS,OJ];omega
    | 3=>simp at e;subst e;simp[eS,OJ];omega
    | s+4=>simp at e
def Sw(fs:Fs)(bg:List Bool)(m:Nat)(r:G7):Prop :=
  r.2.1.length=4/\eS fs r.2.1<=eS fs bg/\∃m',oI r.2.2 m'/\m'+eS fs r.2.1<=m+eS fs bg
theorem El(n:∀j a d m,a.length=4->oI d m->Sw T a m (cW T s j a d))(x k:Nat)(a:List Bool)(d:Db)(m:Nat)(p:k<=(ak T x).size)(l:a.length=4)(g:oI d m)(q:aM (aC (ak T x) k).1=true) :
    Sw T a (m+1) (ia T s x k a d).1/\k<(ia T s x k a d).2/\(ia T s x k a d).2<=(ak T x).size:=by
  have e:=gq (ak T x) k p;have c:=e.2.2 q;unfold ia kt;split
  · unfold oe
    split
    · exact⟨⟨l,Tq _,m,g,by simp only;omega⟩,c,e.2.1⟩
    · next j y b =>
      have f:=n j a d m l g;refine⟨⟨f.1,f.2.1,?_⟩,?_⟩
      · obtain⟨t,u,w⟩:=f.2.2;exact⟨t,u,by simp only;omega⟩
      · unfold sP at b
        have r:=gq (ak T x) (aC (ak T x) k).2 e.2.1;have v:=gq (ak T x) (aC (ak T x) (aC (ak T x) k).2).2 r.2.1
        repeat' split at b
        all_goals first | (cases b;done) | skip
        injection b with b
        injection b with o i
        subst i;omega
  · exact⟨⟨l,Tq _,m+1,g.take _ _,by simp only;omega⟩,c,e.2.1⟩
theorem MW(f:Nat):(∀x k a d m,k<=(ak T x).size->a.length=4->oI d m->(bH T f x k a d).2.1.length=4/\eS T (bH T f x k a d).2.1<=eS T a/\∃c,oI (bH T f x k a d).2.2 c/\c+eS T (bH T f x k a d).2.1<=m+((ak T x).size-k)+eS T a) /\
    (∀j a d m,a.length=4->oI d m->Sw T a m (cW T f j a d)):=by
  have b:∀f,(∀x k a d m,k<=(ak T x).size->a.length=4->oI d m->(bH T f x k a d).2.1.length=4/\eS T (bH T f x k a d).2.1<=eS T a/\∃c,oI (bH T f x k a d).2.2 c/\c+eS T (bH T f x k a d).2.1<=m+((ak T x).size-k)+eS T a) ->
      (∀j a d m,a.length=4->oI d m->Sw T a m (cW T f j a d)):=by
    intro f h j a d m e g;unfold cW;split
    · exact⟨e,Tq _,m,g,Tq _⟩
    · next v =>
      have n:a.getD j true=false:=(by simpa using v);have E:=xW T a j e n;have:=h j 0 (a.set j true) d m (Uc _) (by simpa using e) g;refine⟨this.1,by omega,?_⟩;obtain⟨c,y,F⟩:=this.2.2;exact⟨c,y,by omega⟩
  induction f with
  | zero =>
    have o:∀x k a d m,k<=(ak T x).size->a.length=4->oI d m->(bH T 0 x k a d).2.1.length=4/\eS T (bH T 0 x k a d).2.1<=eS T a/\∃c,oI (bH T 0 x k a d).2.2 c/\c+eS T (bH T 0 x k a d).2.1<=m+((ak T x).size-k)+eS T a:=by
      intro x k a d m q e g;exact⟨e,Tq _,m,g,by simp only[bH];omega⟩
    exact⟨o,b 0 o⟩
  | succ f r =>
    have p:∀x k a d m,k<=(ak T x).size->a.length=4->oI d m->(bH T (f+1) x k a d).2.1.length=4/\eS T (bH T (f+1) x k a d).2.1<=eS T a/\∃c,oI (bH T (f+1) x k a d).2.2 c/\c+eS T (bH T (f+1) x k a d).2.1<=m+((ak T x).size-k)+eS T a:=by
      intro x k a d m q e g;cases l:aM (aC (ak T x) k).1 with
      | true =>
        have D:=El T f r.2 x k a d m q e g l;obtain⟨⟨t,B,s,u,I⟩,J,C⟩:=D;cases i:((ia T f x k a d).1.1.1==0) with
        | true =>
          rw[zU T f x k a d l i];obtain⟨z,G,w,A,H⟩:=r.1 x (ia T f x k a d).2 (ia T f x k a d).1.2.1 (ia T f x k a d).1.2.2 s C t u;exact⟨z,by omega,w,A,by omega⟩
        | false =>
          rw[pD T f x k a d l i];exact⟨t,B,s,u,by omega⟩
      | false =>
        by_cases i:(aC (ak T x) k).1.XY=true/\lM d=false
        · rw[Bm T f x k a d l i.1 i.2];exact⟨e,Tq _,m,g,by simp only;omega⟩
        · rw[xJ T f x k a d l i];exact⟨e,Tq _,m,g,by simp only;omega⟩
    exact⟨p,b (f+1) p⟩
theorem zk(k:Nat)(a:b.size<=1024):(bh b k).1.text.size<=1024:=by
  unfold bh;generalize b.size-k+1=f
  induction f generalizing k with
  | zero=>simp[cm,ByteArray.size]
  | succ f c =>
    rw[cm];split
    · split
      · simp[ByteArray.size]
      · exact c _
    · split
      · simp[ByteArray.size]
      · exact rK b k a
theorem sV(k:Nat)(a:b.size<=1024):(aC b k).1.text.size<=1024:=by
  unfold aC;generalize b.size-k+1=f
  induction f generalizing k with
  | zero=>simp[dZ,ByteArray.size]
  | succ f c =>
    rw[dZ];split
    · split
      · exact c _
      · exact zk b _ a
    · exact rK b k a
theorem GE:(aZ w b z0).2.XK=w.XK∨(aZ w b z0).2.XK=[]∨(aZ w b z0).2.XK=w.XK++[(b,z0)]:=by
 unfold aZ;split
 ·left
  unfold ay;split
  ·rfl
  ·split
   ·split
    ·rfl
    ·unfold cU;split <;> rfl
   ·split
    ·split <;> rfl
    ·split
     ·rfl
     ·split
      ·rfl
      ·split
       ·rfl
       ·unfold bV
        repeat' split
        all_goals rfl
 ·split
  ·left;unfold aJ
   repeat' split
   all_goals rfl
  ·split
   ·unfold mu;split
    ·left;rfl
    ·split
     ·left;rfl
     ·right;left;rfl
   ·split
    ·left;unfold cw;split <;> rfl
    ·split
     ·left;rfl
     ·split
      ·right;right;rfl
      ·split
       ·left;rfl
       ·left;rfl
theorem Om:(aZ w b z0).2.XQ=w.XQ∨(∃y∈w.rbl,(aZ w b z0).2.XQ=kE w.XQ y)∨((aZ w b z0).2.XQ=w.XQ++[⟨w.XU,w.XV,w.Xz,w.XK,z0,0⟩]/\0<w.Xz.length):=by
 unfold aZ;split
 ·unfold ay;split
  ·left;rfl
  ·split
   ·split
    ·left;rfl
    ·unfold cU;split
     ·left;rfl
     ·next y d=>right;left;exact⟨y,List.mem_of_getLast? d,rfl⟩
   ·split
    ·split <;> (left;rfl)
    ·split
     ·left;rfl
     ·split
      ·left;rfl
      ·split
       ·left;rfl
       ·left;unfold bV
        repeat' split
        all_goals rfl
 ·split
  ·left;unfold aJ
   repeat' split
   all_goals rfl
  ·split
   ·unfold mu;split
    ·left;rfl
    ·next c =>
     have a:0<w.Xz.length:=by
      unfold mQ at c;split at c <;> omega
     split
     ·left;rfl
     ·unfold aX;split
      ·left;rfl
      ·split
       ·left;rfl
       ·right;right
        refine⟨?_,a⟩;unfold nX;split <;> rfl
   ·split
    ·left;unfold cw;split <;> rfl
    ·split
     ·left;rfl
     ·split
      ·left;rfl
      ·split
       ·left;rfl
       ·left;rfl
structure Ti(S:List St)(d:Db):Prop where
 pre:∃m,d.XQ=S++m
 rbl:∀y∈d.rbl,S.length<=y
structure Rw where
 XV:Xs
 XF:Int
 why:Int
 at_:Pl
def nU(r:Rw):List Value:=[string r.XV,int i64 r.XF,int i64 r.why,string r.at_.XZ,int i64 r.at_.X0,int i64 r.at_.X3]
def lH(l:List Rw):List Value:=l.flatMap nU
def ln:Pl:=⟨⟨#[]⟩,0,0⟩
def qs:Rw:=⟨⟨#[]⟩,0,0,ln⟩
theorem Sd:(prog.info? 38).map (fun i=>(i.zero,i.size,i.bytes))=some (some (agg #[string ⟨#[]⟩,int i64 0,int i64 0,string ⟨#[]⟩,int i64 0,int i64 0]),6,64):=by kernel_rfl
theorem Ef(l:List Rw):(lH l).length=l.length*6:=by
 induction l with
 | nil=>rfl
 | cons x r a =>
  have e:lH (x :: r)=nU x++lH r:=rfl;rw[e,Tv,a];simp[nU];omega
theorem IR(l:List Rw)(k:Nat)(a:k<l.length)(j:Nat)(d:j<6):(lH l)[k*6+j]?=(nU l[k])[j]?:=by
 induction l generalizing k with
 | nil=>simp at a
 | cons s r c =>
  have e:lH (s :: r)=nU s++lH r:=rfl;rw[e];cases k with
  | zero=>rw[TQ (by simp[nU];omega)];simp
  | succ k =>
   rw[TJ (by simp[nU];omega)];have b:(k+1)*6+j-(nU s).length=k*6+j:=by simp[nU];omega
   rw[b,c k (by simpa using a)];rfl
def LV(p:Pl):Prop:=-1000000000<=p.X0/\p.X0<=1000000000
structure SN(L:List Rw):Prop where
 len:L.length<=100000
 X0:∀r∈L,LV r.at_
end Go.Proofs.YtnbhnocdhbcbcaaGreat

import Derived.Test.YtnbhnocdhbcbcaaGreatK04
namespace Go.Proofs.YtnbhnocdhbcbcaaGreat
open Go.RowKit Tryz
open Value IntKind Ending
set_option maxHeartbeats 0
variable{k:Db}{a g:Nat}{o:World}{L m:List Value}{D:Nat->Hd}(T:Fs)(f n l:Nat)(S x:List Value)(I:List Bool)(w:Db)(H:Nat->Hd)(y b:Xs)(v d:Int)(i:World)(s:Nat)(z0:Pl)
def jB(d:Db)(x:Xs):Int:=if aK d.XH x=false then 18 else if aK d.Xy x=true then 19 else 0
def jC(d:Db)(x:Xs):Int:=if aK d.XA x=false then 17 else 0
def gg(d:Db)(x:Xs):Int:=if 1<d.Xy.length then 16 else if aK d.XH x=false then 18 else if aK d.XK x=true then 20 else 0
def fZ(d:Db)(x:Xs):Int:=if aK d.XA x=true then 0 else if aK d.XH x=false then 21 else if aK d.XK x=false then 22 else 0
def bi(d:Db)(x:Xs):Int :=
 if(d.XS==7)=true then(if aK d.Xy x=true∨eC d x=true then 13 else 0)
 else if(d.XS==8)=true then(if aK d.Xy x=true∨fc d x=true then 13 else 0)
 else if(d.XS==1)=true then jB d x
 else if d.Xy.length=0 then jC d x
 else if(d.XS==2)=true then gg d x
 else fZ d x
theorem tK(h:aW i f n S x w H)(a:S.length=l)(c:gD w 1073741824) :
  Calls prog 257 #[pointer (some ⟨f,l,none⟩),string b] i fun e o=>e=returned (int i64 (jB w b))/\o=i:=by
 obtain⟨q,r,s,t,u,v,y,z,A,B,j,k,m⟩:=h.cells l a;cases d:aK w.XH b <;> cases g:aK w.Xy b
 all_goals
  go_enter func257,ntmps257;go_wp2_with (first | (go_at_call 270;refine(li f n l S x w H b _ (by exact h) a c.XH).mono ?_;rintro e p ⟨rfl,rfl⟩) | (go_at_call 254;refine(fC (H 8) w.Xy b _ (by exact h.X6 8) c.Xy).mono ?_;rintro e p ⟨rfl,rfl⟩));go_ret;exact⟨au (by simp[jB,d,g]),rfl⟩
theorem tM(h:aW i f n S x w H)(a:S.length=l)(d:gD w 1073741824) :
  Calls prog 258 #[pointer (some ⟨f,l,none⟩),string b] i fun e m=>e=returned (int i64 (jC w b))/\m=i:=by
 obtain⟨o,p,q,r,s,t,u,v,y,z,g,j,k⟩:=h.cells l a;cases c:aK w.XA b
 all_goals
  go_enter func258,ntmps258;go_wp2_with (first | (go_at_call 271;refine(nJ f n l S x w H b _ (by exact h) a d.XA).mono ?_;rintro e A ⟨rfl,rfl⟩));go_ret;exact⟨au (by simp[jC,c]),rfl⟩
theorem tL(h:aW i f n S x w H)(a:S.length=l)(c:gD w 1073741824) :
  Calls prog 259 #[pointer (some ⟨f,l,none⟩),string b] i fun e r=>e=returned (int i64 (gg w b))/\r=i:=by
 obtain⟨s,t,u,v,y,z,A,B,C,D,o,p,q⟩:=h.cells l a;have m:=c.Xy;by_cases g:1<w.Xy.length
 ·go_enter func259,ntmps259;go_wp2_with (first | (go_at_call 270;refine(li f n l S x w H b _ (by exact h) a c.XH).mono ?_;rintro e d ⟨rfl,rfl⟩) | (go_at_call 272;refine(oh f n l S x w H b _ (by exact h) a c.XK).mono ?_;rintro e d ⟨rfl,rfl⟩));go_ret;exact⟨au (by simp[gg,g]),rfl⟩
 ·cases j:aK w.XH b <;> cases k:aK w.XK b
  all_goals
   go_enter func259,ntmps259;go_wp2_with (first | (go_at_call 270;refine(li f n l S x w H b _ (by exact h) a c.XH).mono ?_;rintro e d ⟨rfl,rfl⟩) | (go_at_call 272;refine(oh f n l S x w H b _ (by exact h) a c.XK).mono ?_;rintro e d ⟨rfl,rfl⟩));go_ret;exact⟨au (by simp[gg,g,j,k]),rfl⟩
theorem rR(h:aW i f n S x w H)(a:S.length=l)(c:gD w 1073741824) :
  Calls prog 260 #[pointer (some ⟨f,l,none⟩),string b] i fun e q=>e=returned (int i64 (fZ w b))/\q=i:=by
 obtain⟨r,s,t,u,v,y,z,A,B,C,m,o,p⟩:=h.cells l a;cases g:aK w.XA b
 ·cases j:aK w.XH b <;> cases k:aK w.XK b
  all_goals
   go_enter func260,ntmps260;go_wp2_with (first | (go_at_call 271;refine(nJ f n l S x w H b _ (by exact h) a c.XA).mono ?_;rintro e d ⟨rfl,rfl⟩) | (go_at_call 270;refine(li f n l S x w H b _ (by exact h) a c.XH).mono ?_;rintro e d ⟨rfl,rfl⟩) | (go_at_call 272;refine(oh f n l S x w H b _ (by exact h) a c.XK).mono ?_;rintro e d ⟨rfl,rfl⟩));go_ret;exact⟨au (by simp[fZ,g,j,k]),rfl⟩
 ·go_enter func260,ntmps260;go_wp2_with (first | (go_at_call 271;refine(nJ f n l S x w H b _ (by exact h) a c.XA).mono ?_;rintro e d ⟨rfl,rfl⟩) | (go_at_call 270;refine(li f n l S x w H b _ (by exact h) a c.XH).mono ?_;rintro e d ⟨rfl,rfl⟩) | (go_at_call 272;refine(oh f n l S x w H b _ (by exact h) a c.XK).mono ?_;rintro e d ⟨rfl,rfl⟩));go_ret;exact⟨au (by simp[fZ,g]),rfl⟩
theorem pZ(h:aW i f n S x w H)(d:S.length=l)(a:gD w 1073741824) :
  Calls prog 237 #[pointer (some ⟨f,l,none⟩),string b] i fun e y=>e=returned (int i64 (bi w b))/\y=i:=by
 obtain⟨z,A,B,C,D,E,F,G,I,J,t,u,v⟩:=h.cells l d;cases k:(w.XS==7)
 ·cases m:(w.XS==8)
  ·cases o:(w.XS==1)
   ·by_cases g:w.Xy.length=0
    ·have c:Xr (bi w b=jC w b):=(by show bi w b=_;simp only[bi,k,m,o,g];simp);have r:((w.Xy.length:Int)==0)=true:=(by simp[g]);clear g;go_enter func237,ntmps237;go_wp2_with (first | (go_at_call 258;refine(tM f n l S x w H b _ (by exact h) d a).mono ?_;rintro e j ⟨rfl,rfl⟩));go_ret;exact⟨au (by rw[c.o]),rfl⟩
    ·have r:((w.Xy.length:Int)==0)=false:=TT.2 (by omega);cases s:(w.XS==2)
     ·have c:Xr (bi w b=fZ w b):=(by show bi w b=_;simp[bi,k,m,o,s,g]);clear g;go_enter func237,ntmps237;go_wp2_with (first | (go_at_call 260;refine(rR f n l S x w H b _ (by exact h) d a).mono ?_;rintro e j ⟨rfl,rfl⟩));go_ret;exact⟨au (by rw[c.o]),rfl⟩
     ·have c:Xr (bi w b=gg w b):=(by show bi w b=_;simp[bi,k,m,o,s,g]);clear g;go_enter func237,ntmps237;go_wp2_with (first | (go_at_call 259;refine(tL f n l S x w H b _ (by exact h) d a).mono ?_;rintro e j ⟨rfl,rfl⟩));go_ret;exact⟨au (by rw[c.o]),rfl⟩
   ·have c:Xr (bi w b=jB w b):=(by show bi w b=_;simp[bi,k,m,o]);go_enter func237,ntmps237;go_wp2_with (first | (go_at_call 257;refine(tK f n l S x w H b _ (by exact h) d a).mono ?_;rintro e j ⟨rfl,rfl⟩));go_ret;exact⟨au (by rw[c.o]),rfl⟩
  ·cases p:aK w.Xy b <;> cases q:fc w b
   all_goals
    go_enter func237,ntmps237;go_wp2_with (first | (go_at_call 254;refine(fC (H 8) w.Xy b _ (by exact h.X6 8) a.Xy).mono ?_;rintro e j ⟨rfl,rfl⟩) | (go_at_call 256;refine(Br f n l S x w H b _ (by exact h) d a).mono ?_;rintro e j ⟨rfl,rfl⟩));go_ret;exact⟨au (by simp[bi,k,m,p,q]),rfl⟩
 ·cases p:aK w.Xy b <;> cases q:eC w b
  all_goals
   go_enter func237,ntmps237;go_wp2_with (first | (go_at_call 254;refine(fC (H 8) w.Xy b _ (by exact h.X6 8) a.Xy).mono ?_;rintro e j ⟨rfl,rfl⟩) | (go_at_call 255;refine(my f n l S x w H b _ (by exact h) d a).mono ?_;rintro e j ⟨rfl,rfl⟩));go_ret;exact⟨au (by simp[bi,k,p,q]),rfl⟩
theorem gD.mono{M:Nat}(h:gD k a)(b:a<=M):gD k M :=
 ⟨TE h.XG b,TE h.XA b,TE h.XB b,TE h.XH b,TE h.XK b,TE h.XV b,TE h.XP b,TE h.rbl b,TE h.Xy b,TE h.XJ b⟩
theorem aW.XS(h:aW o a g L m k D)(c:Nat)(e:L.length=c)(b:Int) :
  Xr (aW (o.setCell ⟨a,c+8,none⟩ (int i64 b)) a g L m { k with XS:=b } D/\aD a o D (o.setCell ⟨a,c+8,none⟩ (int i64 b)) D) :=
 h.set (d':={ k with XS:=b }) c 8 e (Le k D b) _ (by omega) rfl
theorem aW.lab(h:aW o a g L m k D)(c:Nat)(e:L.length=c)(b:Xs) :
  Xr (aW (o.setCell ⟨a,c+9,none⟩ (string b)) a g L m { k with XU:=b } D/\aD a o D (o.setCell ⟨a,c+9,none⟩ (string b)) D) :=
 h.set (d':={ k with XU:=b }) c 9 e (Gi k D b) _ (by omega) rfl
theorem aW.XC(h:aW o a g L m k D)(c:Nat)(e:L.length=c)(b:Bool) :
  Xr (aW (o.setCell ⟨a,c+11,none⟩ (bool b)) a g L m { k with XC:=b } D/\aD a o D (o.setCell ⟨a,c+11,none⟩ (bool b)) D) :=
 h.set (d':={ k with XC:=b }) c 11 e (BQ k D b) _ (by omega) rfl
theorem aW.forget(h:aW o a g L m k D)(b:Nat)(d:L.length=b) :
  aW (o.setCell ⟨a,b+10,none⟩ (slice none 0 0)) a g L m { k with Xy:=[] } (iI D 8 ⟨none,0⟩)/\aD a o D (o.setCell ⟨a,b+10,none⟩ (slice none 0 0)) (iI D 8 ⟨none,0⟩) :=
 h.put (d':={ k with Xy:=[] }) b 10 d 8 (by omega) ⟨none,0⟩ ⟨by simp[a8,aE,dK],TG ⟨by simp[a8,aE],by simp[a8,aE]⟩⟩ (WV _ _) (TG rfl) (ux k D []) _ (by omega) (by simp[cJ,iI])
theorem aW.noProof(h:aW o a g L m k D)(b:Nat)(d:L.length=b) :
  aW (o.setCell ⟨a,b+12,none⟩ (slice none 0 0)) a g L m { k with XJ:=[] } (iI D 9 ⟨none,0⟩)/\aD a o D (o.setCell ⟨a,b+12,none⟩ (slice none 0 0)) (iI D 9 ⟨none,0⟩) :=
 h.put (d':={ k with XJ:=[] }) b 12 d 9 (by omega) ⟨none,0⟩ ⟨by simp[a8,iA,oF],TG ⟨by simp[a8,iA],by simp[a8,iA]⟩⟩ (WV _ _) (TG rfl) (yA k D []) _ (by omega) (by simp[cJ,iI])
def aJ(d:Db)(x:Xs):Int×Db :=
 if(x.toList == [36,102])=true then(0,{ d with XS:=2 })
 else if(x.toList == [36,101])=true then(0,{ d with XS:=3 })
 else if(x.toList == [36,97])=true then(0,{ d with XS:=4 })
 else if(x.toList == [36,112])=true then(0,{ d with XS:=5 })
 else(14,d)
def cv(d:Db):Int×Db:=if d.Xy.length=0 then(15,d) else(0,{ d with XC:=true })
def bU(d:Db)(x:Xs):Int×Db :=
 if dC x=true then(8,d) else if iy x=false then(12,d) else if eC d x=true then(13,d)
 else(0,{ d with XG:=d.XG++[x],XU:=x,XS:=6 })
def mt(d:Db)(p:Pl):Int×Db :=
 if(d.Xy.length:Int)<mP d then(15,d)
 else if(d.XS==5)=true/\d.XC=false then(23,d)
 else(0,{ aX d p with XS:=0,XU:=⟨#[]⟩,Xy:=[],XC:=false,XJ:=[] })
def cQ(d:Db)(q:Nat×Nat):Db :=
 match d.rbl.getLast? with
 | none=>dw d d.XV.dropLast q
 | some x=>{ dw d d.XV.dropLast q with rbl:=d.rbl.dropLast,XP:=kD d.XP x }
def ay(d:Db)(x:Xs):Int×Db :=
 if(x.toList == [36,123])=true then(0,{ d with XV:=d.XV++[(d.XH.length,d.XK.length)],rbl:=d.rbl++[d.XP.length] })
 else if(x.toList == [36,125])=true then(match d.XV.getLast? with | none=>(9,d) | some p=>(0,cQ d p))
 else if(x.toList == [36,99])=true then(if 0<d.XV.length then(10,d) else(0,{ d with XS:=7 }))
 else if(x.toList == [36,118])=true then(0,{ d with XS:=8 })
 else if(x.toList == [36,100])=true then(0,{ d with XS:=1 })
 else if(x.toList == [36,102])=true∨(x.toList == [36,101])=true∨(x.toList == [36,97])=true∨(x.toList == [36,112])=true then(11,d)
 else bU d x
def aZ(d:Db)(x:Xs)(p:Pl):Int×Db :=
 if(d.XS==0)=true then ay d x
 else if(d.XS==6)=true then aJ d x
 else if(x.toList == [36,46])=true then mt d p
 else if(x.toList == [36,61])=true/\(d.XS==5)=true/\d.XC=false then cv d
 else if dC x=true then(8,d)
 else if d.XC=true then(0,{ d with XJ:=d.XJ++[(x,p)] })
 else if(bi d x==0)=true then(0,{ d with Xy:=d.Xy++[x] })
 else(bi d x,d)
set_option maxRecDepth 100000
theorem wB(h:aW i f n S x w H)(m:S.length=l) :
  Calls prog 234 #[pointer (some ⟨f,l,none⟩),string b] i fun e q=>e=returned (int i64 (aJ w b).1)/\∃p,aW q f n S x (aJ w b).2 p/\aD f i H q p:=by
 obtain⟨v,y,z,A,B,C,D,E,F,G,s,t,u⟩:=h.cells l m;have r:=h.free;cases a:(b.toList == [36,102])
 ·cases d:(b.toList == [36,101])
  ·cases k:(b.toList == [36,97])
   ·cases j:(b.toList == [36,112])
    ·have c:Xr (aJ w b=(14,w)):=(by show aJ w b=_;simp only[aJ,a,d,k,j];simp);go_enter func234,ntmps234;go_wp2;go_ret;exact⟨au (by rw[c.o]),H,by rw[c.o];exact h,aD.refl _ _ _⟩
    ·have c:Xr (aJ w b=(0,{ w with XS:=5 })):=(by show aJ w b=_;simp only[aJ,a,d,k,j];simp);have g:=h.XS l m 5;go_enter func234,ntmps234;go_wp2;go_ret;exact⟨au (by rw[c.o]),H,by rw[c.o];exact g.o.1,g.o.2⟩
   ·have c:Xr (aJ w b=(0,{ w with XS:=4 })):=(by show aJ w b=_;simp only[aJ,a,d,k];simp);have g:=h.XS l m 4;go_enter func234,ntmps234;go_wp2;go_ret;exact⟨au (by rw[c.o]),H,by rw[c.o];exact g.o.1,g.o.2⟩
  ·have c:Xr (aJ w b=(0,{ w with XS:=3 })):=(by show aJ w b=_;simp only[aJ,a,d];simp);have g:=h.XS l m 3;go_enter func234,ntmps234;go_wp2;go_ret;exact⟨au (by rw[c.o]),H,by rw[c.o];exact g.o.1,g.o.2⟩
 ·have c:Xr (aJ w b=(0,{ w with XS:=2 })):=by show aJ w b=_;simp only[aJ,a];simp
  have g:=h.XS l m 2;go_enter func234,ntmps234;go_wp2;go_ret;exact⟨au (by rw[c.o]),H,by rw[c.o];exact g.o.1,g.o.2⟩
theorem xi(h:aW i f n S x w H)(j:S.length=l) :
  Calls prog 236 #[pointer (some ⟨f,l,none⟩)] i fun e k=>e=returned (int i64 (cv w).1)/\∃d,aW k f n S x (cv w).2 d/\aD f i H k d:=by
 obtain⟨s,t,u,v,y,z,A,B,C,D,o,p,q⟩:=h.cells l j;have m:=h.free;by_cases b:w.Xy.length=0
 ·have a:Xr (cv w=(15,w)):=by show cv w=_;simp only[cv,b];simp
  have c:((w.Xy.length:Int)==0)=true:=by simp[b]
  clear b;go_enter func236,ntmps236;go_wp2;go_ret;exact⟨au (by rw[a.o]),H,by rw[a.o];exact h,aD.refl _ _ _⟩
 ·have a:Xr (cv w=(0,{ w with XC:=true })):=by show cv w=_;simp only[cv,b];simp
  have c:((w.Xy.length:Int)==0)=false:=TT.2 (by omega);have g:=h.XC l j true;clear b;go_enter func236,ntmps236;go_wp2;go_ret;exact⟨au (by rw[a.o]),H,by rw[a.o];exact g.o.1,g.o.2⟩
theorem zy(h:aW i f n S x w H)(d:S.length=l)(k:gD w 100000000)(g:b.size<=1073741824) :
  Calls prog 251 #[pointer (some ⟨f,l,none⟩),string b] i fun e K=>e=returned (int i64 (bU w b).1)/\∃t,aW K f n S x (bU w b).2 t/\aD f i H K t:=by
 obtain⟨z,A,B,C,D,E,F,G,I,J,m,o,p⟩:=h.cells l d;have j:=h.free;cases q:dC b
 ·cases s:iy b
  ·have a:Xr (bU w b=(12,w)):=(by show bU w b=_;simp[bU,q,s]);go_enter func251,ntmps251;go_wp2_with (first | (go_at_call 232;refine(fa b _ g).mono ?_;rintro e c ⟨rfl,rfl⟩) | (go_at_call 264;refine(og b _ g).mono ?_;rintro e c ⟨rfl,rfl⟩) | (go_at_call 255;refine(my f n l S x w H b _ (by exact h) d (k.mono (by omega))).mono ?_;rintro e c ⟨rfl,rfl⟩));go_ret;exact⟨au (by rw[a.o]),H,by rw[a.o];exact h,aD.refl _ _ _⟩
  ·cases y:eC w b
   ·have a:Xr (bU w b=(0,{ w with XG:=w.XG++[b],XU:=b,XS:=6 })):=(by show bU w b=_;simp[bU,q,s,y]);have N:=k.XG;go_enter func251,ntmps251;go_wp2_with (first | (go_at_call 232;refine(fa b _ g).mono ?_;rintro e c ⟨rfl,rfl⟩) | (go_at_call 264;refine(og b _ g).mono ?_;rintro e c ⟨rfl,rfl⟩) | (go_at_call 255;refine(my f n l S x w H b _ (by exact h) d (k.mono (by omega))).mono ?_;rintro e c ⟨rfl,rfl⟩));refine(AS f n l S x w H b _ (by exact h) d (by omega)).mono ?_;rintro e P ⟨rfl,L,r,M⟩;have v:=r.lab l d b;have u:=v.o.1.XS l d 6;clear z A B C D E F G I J m o p j;obtain⟨z,A,B,C,D,E,F,G,I,J,m,o,p⟩:=r.cells l d;have j:=r.free;go_wp2;go_ret;exact⟨au (by rw[a.o]),L,by rw[a.o];exact u.o.1,M.trans (v.o.2.trans u.o.2)⟩
   ·have a:Xr (bU w b=(13,w)):=(by show bU w b=_;simp[bU,q,s,y]);go_enter func251,ntmps251;go_wp2_with (first | (go_at_call 232;refine(fa b _ g).mono ?_;rintro e c ⟨rfl,rfl⟩) | (go_at_call 264;refine(og b _ g).mono ?_;rintro e c ⟨rfl,rfl⟩) | (go_at_call 255;refine(my f n l S x w H b _ (by exact h) d (k.mono (by omega))).mono ?_;rintro e c ⟨rfl,rfl⟩));go_ret;exact⟨au (by rw[a.o]),H,by rw[a.o];exact h,aD.refl _ _ _⟩
 ·have a:Xr (bU w b=(8,w)):=by show bU w b=_;simp[bU,q]
  go_enter func251,ntmps251;go_wp2_with (first | (go_at_call 232;refine(fa b _ g).mono ?_;rintro e c ⟨rfl,rfl⟩) | (go_at_call 264;refine(og b _ g).mono ?_;rintro e c ⟨rfl,rfl⟩) | (go_at_call 255;refine(my f n l S x w H b _ (by exact h) d (k.mono (by omega))).mono ?_;rintro e c ⟨rfl,rfl⟩));go_ret;exact⟨au (by rw[a.o]),H,by rw[a.o];exact h,aD.refl _ _ _⟩
theorem JZ:1<=mP w:=by unfold mP;split <;> omega
theorem O4(h:aW i f n S x w H)(a:S.length=l)(Z:gD w 10000000) :
  Calls prog 235 #[pointer (some ⟨f,l,none⟩),agg #[string b,int i64 v,int i64 d]] i fun e U=>e=returned (int i64 (mt w ⟨b,v,d⟩).1)/\∃L,aW U f n S x (mt w ⟨b,v,d⟩).2 L/\aD f i H U L:=by
 obtain⟨W,r⟩:∃W,W=i.alloc (.cells #[string b,int i64 v,int i64 d] 36):=⟨_,rfl⟩
 have K:=fH r.symm;have D:=h.XD K;have u:Xr _:=r.symm;have B:=f8 r.symm;obtain⟨p0,p1,p2⟩:=wm B;clear r B h;obtain⟨z,A,C,E,F,G,I,J,R,T,p,c,q⟩:=D.cells l a;clear z A C E F G I J T q;have k:=D.free;by_cases j:(w.Xy.length:Int)<mP w
 ·have g:Xr (mt w ⟨b,v,d⟩=(15,w)):=by show mt w ⟨b,v,d⟩=_;simp only[mt,if_pos j]
  go_enter func235,ntmps235;go_upto_region 1 with fail
  rw[u.o];go_quiet ((go_at_call 252;exact TZ (vj f n l S x w H _ (D.XD ((ae.refl [] W).drewN _)) a)));go_wp2;go_ret;exact⟨au (by rw[g.o]),H,by rw[g.o];exact D.XD (kr0.drewN _),(aD.refl _ _ _).XD (K.drewN _)⟩
 ·have y:Xr (0<w.Xy.length):=by have:=JZ w;show 0<_;omega
  by_cases o:(w.XS==5)=true/\w.XC=false
  ·have g:Xr (mt w ⟨b,v,d⟩=(23,w)):=(by show mt w ⟨b,v,d⟩=_;simp only[mt,if_neg j,if_pos o]);obtain⟨s,X⟩:=o;rw[X]at c;go_enter func235,ntmps235;(go_upto_region 1 with fail);rw[u.o];go_quiet ((go_at_call 252;exact TZ (vj f n l S x w H _ (D.XD ((ae.refl [] W).drewN _)) a)));go_wp2;go_ret;exact⟨au (by rw[g.o]),H,by rw[g.o];exact D.XD (kr0.drewN _),(aD.refl _ _ _).XD (K.drewN _)⟩
  ·have g:Xr (mt w ⟨b,v,d⟩=(0,{ aX w ⟨b,v,d⟩ with XS:=0,XU:=⟨#[]⟩,Xy:=[],XC:=false,XJ:=[] })):=(by show mt w ⟨b,v,d⟩=_;simp only[mt,if_neg j,if_neg o]);have m:(w.XS==5)=true->w.XC=true:=by
    intro s;cases Y:w.XC with
    | true=>rfl
    | false=>exact absurd ⟨s,Y⟩ o
   cases s:(w.XS==5)
   all_goals
    try rw[m s]at c
    clear m;clear o;go_enter func235,ntmps235;(go_upto_region 1 with fail);rw[u.o];go_quiet ((go_at_call 252;exact TZ (vj f n l S x w H _ (D.XD ((ae.refl [] W).drewN _)) a)));go_wp2_with fail;refine(CT f n l S x w H b v d _ (by exact D.XD (kr0.drewN _)) a y.o Z).mono ?_;rintro e w2 ⟨rfl,H2,t,V⟩;have M:=t.XS l a 0;have N:=M.o.1.lab l a ⟨#[]⟩;have O:Xr _:=N.o.1.forget l a;have P:=O.o.1.XC l a false;have Q:Xr _:=P.o.1.noProof l a;clear R p c k p0 p1 p2;obtain⟨z,A,C,E,F,G,I,J,R,T,p,c,q⟩:=t.cells l a;clear z A C E F G I J;have k:=t.free;go_wp2;go_ret;exact⟨au (by rw[g.o]),_,by rw[g.o];exact Q.o.1,(V.first (K.drewN _)).trans (M.o.2.trans (N.o.2.trans (O.o.2.trans (P.o.2.trans Q.o.2))))⟩
theorem sQ{α:Type}{l:List α}{p:α}(h:l.getLast?=some p):l=l.dropLast++[p]:=by
 obtain⟨a,rfl⟩:=List.getLast?_eq_some_iff.1 h;simp
structure Cu(d:Db)(N:Nat):Prop where
 XW:∀p,p∈d.XV->p.1<=N/\p.2<=N
 same:d.rbl.length=d.XV.length
 recs:∀x,x∈d.rbl->x<=d.XP.length
theorem zx(h:aW i f n S x w H)(s:S.length=l)(E:gD w 10000000)(hx:b.size<=1073741824)(J:Cu w 100000000) :
  Calls prog 233 #[pointer (some ⟨f,l,none⟩),string b] i fun e U=>e=returned (int i64 (ay w b).1)/\∃P,aW U f n S x (ay w b).2 P/\aD f i H U P:=by
 have k:=E.mono (M:=100000000) (by omega);obtain⟨q0,q1,q2,q3,q4,q5,q6,q7,q8,q9,ad,af,ag⟩:=h.cells l s;have ac:=h.free;cases a:(b.toList == [36,123])
 ·cases d:(b.toList == [36,125])
  ·cases o:(b.toList == [36,99])
   ·cases j:(b.toList == [36,118])
    ·cases m:(b.toList == [36,100])
     ·cases q:(b.toList == [36,102])
      ·cases r:(b.toList == [36,101])
       ·cases v:(b.toList == [36,97])
        ·cases u:(b.toList == [36,112])
         ·have c:Xr (ay w b=bU w b):=(by show ay w b=_;simp only[ay,a,d,o,j,m,q,r,v,u];simp);go_enter func233,ntmps233;go_wp2_with fail;refine(zy f n l S x w H b _ (by exact h) s k hx).mono ?_;rintro e V ⟨rfl,G,B,C⟩;go_wp2;go_ret;exact⟨au (by rw[c.o]),G,by rw[c.o];exact B,C⟩
         ·have c:Xr (ay w b=(11,w)):=(by show ay w b=_;simp only[ay,a,d,o,j,m,q,r,v,u];simp);go_enter func233,ntmps233;go_wp2;go_ret;exact⟨au (by rw[c.o]),H,by rw[c.o];exact h,aD.refl _ _ _⟩
        ·have c:Xr (ay w b=(11,w)):=(by show ay w b=_;simp only[ay,a,d,o,j,m,q,r,v];simp);go_enter func233,ntmps233;go_wp2;go_ret;exact⟨au (by rw[c.o]),H,by rw[c.o];exact h,aD.refl _ _ _⟩
       ·have c:Xr (ay w b=(11,w)):=(by show ay w b=_;simp only[ay,a,d,o,j,m,q,r];simp);go_enter func233,ntmps233;go_wp2;go_ret;exact⟨au (by rw[c.o]),H,by rw[c.o];exact h,aD.refl _ _ _⟩
      ·have c:Xr (ay w b=(11,w)):=(by show ay w b=_;simp only[ay,a,d,o,j,m,q];simp);go_enter func233,ntmps233;go_wp2;go_ret;exact⟨au (by rw[c.o]),H,by rw[c.o];exact h,aD.refl _ _ _⟩
     ·have c:Xr (ay w b=(0,{ w with XS:=1 })):=(by show ay w b=_;simp only[ay,a,d,o,j,m];simp);have t:=h.XS l s 1;go_enter func233,ntmps233;go_wp2;go_ret;exact⟨au (by rw[c.o]),H,by rw[c.o];exact t.o.1,t.o.2⟩
    ·have c:Xr (ay w b=(0,{ w with XS:=8 })):=(by show ay w b=_;simp only[ay,a,d,o,j];simp);have t:=h.XS l s 8;go_enter func233,ntmps233;go_wp2;go_ret;exact⟨au (by rw[c.o]),H,by rw[c.o];exact t.o.1,t.o.2⟩
   ·by_cases g:0<w.XV.length
    ·have c:Xr (ay w b=(10,w)):=(by show ay w b=_;simp only[ay,a,d,o,g];simp);have z:decide (0<w.XV.length)=true:=(by simpa using g);clear g;go_enter func233,ntmps233;go_wp2_with (go_at_call 208;refine(mw f n l S x w H _ (by exact h) s).mono ?_;rintro e O ⟨rfl,rfl⟩);go_ret;exact⟨au (by rw[c.o]),H,by rw[c.o];exact h,aD.refl _ _ _⟩
    ·have c:Xr (ay w b=(0,{ w with XS:=7 })):=(by show ay w b=_;simp only[ay,a,d,o,g];simp);have z:decide (0<w.XV.length)=false:=(by simpa using g);have t:=h.XS l s 7;clear g;go_enter func233,ntmps233;go_wp2_with (go_at_call 208;refine(mw f n l S x w H _ (by exact h) s).mono ?_;rintro e O ⟨rfl,rfl⟩);go_ret;exact⟨au (by rw[c.o]),H,by rw[c.o];exact t.o.1,t.o.2⟩
  ·rcases hbb:w.XV.getLast? with _ | p
   ·have g:w.XV=[]:=(by simpa using hbb);have c:Xr (ay w b=(9,w)):=(by show ay w b=_;simp only[ay,a,d,hbb];simp);have z:decide (0<w.XV.length)=false:=(by rw[g];rfl);clear hbb g;go_enter func233,ntmps233;go_wp2_with (go_at_call 208;refine(mw f n l S x w H _ (by exact h) s).mono ?_;rintro e O ⟨rfl,rfl⟩);go_ret;exact⟨au (by rw[c.o]),H,by rw[c.o];exact h,aD.refl _ _ _⟩
   ·have g:w.XV=w.XV.dropLast++[p]:=sQ hbb;have c:Xr (ay w b=(0,cQ w p)):=(by show ay w b=_;simp only[ay,a,d,hbb];simp);have z:decide (0<w.XV.length)=true:=(by rw[g];simp);have X:Xr (w.XV=w.XV.dropLast++[p]):=g;have hp:=J.XW p (by rw[g];simp);have D:w.rbl≠[]:=(by intro e;have:=J.same;rw[e,g]at this;simp at this);obtain⟨y,K⟩:∃y,w.rbl.getLast?=some y:=⟨_,VB D⟩
    have Q:Xr (w.rbl=w.rbl.dropLast++[y]):=sQ K;have L:=J.recs y (by rw[Q.o];simp);have Y:Xr (cQ w p={ dw w w.XV.dropLast p with rbl:=w.rbl.dropLast,XP:=kD w.XP y }):=(by show cQ w p=_;unfold cQ;rw[K]);have A:Xr (gD (dw w w.XV.dropLast p) 100000000):=⟨k.XG,k.XA,k.XB,by have:=k.XH;simp only[dw,List.length_take];omega,by have:=k.XK;simp only[dw,List.length_take];omega,by have:=k.XV;simp only[dw,List.length_dropLast];omega,k.XP,k.rbl,k.Xy,k.XJ⟩;clear hbb g D K;go_enter func233,ntmps233;go_wp2_with (go_at_call 208;refine(mw f n l S x w H _ (by exact h) s).mono ?_;rintro e O ⟨rfl,rfl⟩);refine(Bf f n l S x w H w.XV.dropLast p _ (by exact h) s X.o (k.mono (by omega)) ⟨by omega,by omega⟩).mono ?_;rintro e V ⟨rfl,B,C⟩;go_wp2_with fail;refine(Ge f n l S x (dw w w.XV.dropLast p) H w.rbl.dropLast y _ (by exact B) s Q.o A.o L).mono ?_;rintro e w3 ⟨rfl,F,I⟩;go_wp2;go_ret;exact⟨au (by rw[c.o]),H,by rw[c.o,Y.o];exact F,C.trans I⟩
 ·have c:Xr (ay w b=(0,{ w with XV:=w.XV++[(w.XH.length,w.XK.length)],rbl:=w.rbl++[w.XP.length] })):=by show ay w b=_;simp only[ay,a];simp
  have Z:=k.XV;have A:Xr (gD { w with XV:=w.XV++[(w.XH.length,w.XK.length)] } 100000000):=⟨k.XG,k.XA,k.XB,k.XH,k.XK,by have:=E.XV;simp;omega,k.XP,k.rbl,k.Xy,k.XJ⟩;go_enter func233,ntmps233;go_wp2_with fail;refine(xh f n l S x w H _ (by exact h) s (by omega)).mono ?_;rintro e V ⟨rfl,G,B,C⟩;go_wp2_with fail;refine(BO f n l S x { w with XV:=w.XV++[(w.XH.length,w.XK.length)] } G _ (by exact B) s A.o).mono ?_;rintro e w3 ⟨rfl,W,F,I⟩;go_wp2;go_ret;exact⟨au (by rw[c.o]),W,by rw[c.o];exact F,C.trans I⟩
theorem JF(h:(b.toList == [36,61])=true):dC b=true:=by
 have:b=⟨#[36,61]⟩:=Jy (by rw[ByteArray.toList_mk [36,61]];simpa using h);rw[this];decide +kernel
theorem Lb(l:List (Xs×Pl))(p:Xs×Pl):(⟨(iA l).e,(iA l).size,(iA l).n+1,(iA l).xs++sw p⟩:eQ)=iA (l++[p]):=by
 simp[iA,oF]
def iZ(b t o:Nat)(pre post:List Value)(d:Db)(H:Nat->Hd)(x f:Xs)(l c:Int)(w:World):Prop :=
 Calls prog 207 #[pointer (some ⟨b,o,none⟩),string x,agg #[string f,int i64 l,int i64 c]] w fun e w'=>e=returned (int i64 (aZ d x ⟨f,l,c⟩).1)/\∃H',aW w' b t pre post (aZ d x ⟨f,l,c⟩).2 H'/\aD b w H w' H'
theorem boxed(h:aW o a g L m k D)(f:Xs)(l c:Int) :
  ∃W,Xr (o.alloc (.cells #[string f,int i64 l,int i64 c] 36)=W)/\ae [] o W/\aW W a g L m k D/\W.cell? ⟨o.heap.size,0,none⟩=some (string f)/\W.cell? ⟨o.heap.size,1,none⟩=some (int i64 l)/\W.cell? ⟨o.heap.size,2,none⟩=some (int i64 c):=by
 have B:(o.alloc (.cells #[string f,int i64 l,int i64 c] 36)).heap[o.heap.size]?=some (.cells #[string f,int i64 l,int i64 c] 36):=Ts _ _;refine⟨_,rfl,kr0.alloc _,h.XD (kr0.alloc _),?_,?_,?_⟩ <;> rw[ah B] <;> rfl
theorem En(h:aW i f n S x w H)(A:S.length=l)(r:gD w 10000000)(Z:y.size<=1073741824)(P:(w.XS==0)=false)(k1:(w.XS==6)=false)(o:(y.toList == [36,46])=false)(p:(y.toList == [36,61])=false)(V:dC y=false)(J:w.XC=false) :
  iZ f n l S x w H y b v d i:=by
 unfold iZ;have X:=r.mono (M:=1073741824) (by omega);obtain⟨W,U,K,D,p0,p1,p2⟩:=boxed h b v d;clear h;obtain⟨q0,q1,q2,q3,q4,q5,q6,q7,q8,q9,Q,t,R⟩:=D.cells l A;clear q0 q1 q2 q3 q4 q5 q6 q7 q9 R;have G:=D.free;rw[J]at t;cases E:(bi w y==0)
 ·have k:Xr (aZ w y ⟨b,v,d⟩=(bi w y,w)):=by show aZ w y ⟨b,v,d⟩=_;simp[aZ,P,k1,o,p,V,J,E]
  go_enter func207,ntmps207;go_upto_region 1 with fail
  rw[U.o];go_wp2_with (first | (go_at_call 232;refine(fa y _ Z).mono ?_;rintro e B ⟨rfl,rfl⟩) | (go_at_call 237;refine(pZ f n l S x w H y _ (by exact D) A X).mono ?_;rintro e B ⟨rfl,rfl⟩));go_ret;exact⟨au (by rw[k.o]),H,by rw[k.o];exact D,(aD.refl _ _ _).XD K⟩
 ·have k:Xr (aZ w y ⟨b,v,d⟩=(0,{ w with Xy:=w.Xy++[y] })):=by show aZ w y ⟨b,v,d⟩=_;simp[aZ,P,k1,o,p,V,J,E]
  have F:Xr (bi w y=0):=(show bi w y=0 by simpa using E);have ad:=r.Xy;obtain⟨i0,I,L,N,O⟩:=TY ke;have C:=D.XD ((ae.refl [] W).alloc (.cells #[string y] 9));have c:=C.X6 8;have ac:=D.lt;go_enter func207,ntmps207;go_upto_region 1 with fail
  rw[U.o];go_wp2_with (first | (go_at_call 232;refine(fa y _ Z).mono ?_;rintro e B ⟨rfl,rfl⟩) | (go_at_call 237;refine(pZ f n l S x w H y _ (by exact D) A X).mono ?_;rintro e B ⟨rfl,rfl⟩) | (at_builtin;refine aL _ rfl (.tmp 74) (.tmp 76) 61 rfl i0 (string ⟨#[]⟩) 16 (H 8) (aE w.Xy) underlying61 I L N O rfl TQ rfl (by exact c) ⟨_,0,none⟩ 1 1 [string y] rfl rfl ?c1 ?c2 TQ ?c3 ?c4 ?_))
  case c1=>intro j u z;match j,z with | 0,z=>simp at z;subst z;simp[Addr.add]
  case c2=>intro u Y;simp at Y;subst Y;rfl
  case c3=>simp only[aE];unfold maxLen;omega
  case c4=>simp only[aE];omega
  intro g m B s q a;obtain⟨P,f0,T⟩:=C.app (d':={ w with Xy:=w.Xy++[y] }) l 10 A 8 (by omega) g m ((aE w.Xy).n+1) _ s (dW w.Xy y) q (by simpa using a) (ux w H _) (by omega) _ rfl (by simp[cJ,iI,aE]);clear C c q8 Q t s q a G;go_wp2;go_ret;exact⟨au (by rw[k.o,F.o]),_,by rw[k.o];exact T.o.1,T.o.2.first (K.alloc _)⟩
theorem zz(h:aW i f n S x w H)(G:S.length=l)(r:gD w 10000000)(U:y.size<=1073741824)(X:(w.XS==0)=false)(Y:(w.XS==6)=false)(o:(y.toList == [36,46])=false)(p:(y.toList == [36,61])=false)(O:dC y=false)(I:w.XC=true) :
  iZ f n l S x w H y b v d i:=by
 unfold iZ;obtain⟨W,L,K,D,p0,p1,p2⟩:=boxed h b v d;clear h;obtain⟨Z,q1,q2,q3,q4,q5,q6,q7,q8,q9,A,B,ac⟩:=D.cells l G;clear Z q1 q2 q3 q4 q5 q6 q7 q9 A;have P:=D.free;rw[I]at B;have E:Xr (aZ w y ⟨b,v,d⟩=(0,{ w with XJ:=w.XJ++[(y,⟨b,v,d⟩)] })):=by show aZ w y ⟨b,v,d⟩=_;simp[aZ,X,Y,o,p,O,I]
 have T:=r.XJ;obtain⟨V,q,s,t,z⟩:=TY QJ;have N:=D.lt;have F:Xr (aW (W.alloc (.cells #[string y,string b,int i64 v,int i64 d] 229)).drew f n S x w H):=D.XD ((ae.refl [] W).alloc _).drew;have s2:Xr (∀j u,(sw (y,⟨b,v,d⟩))[j]?=some u->(W.alloc (.cells #[string y,string b,int i64 v,int i64 d] 229)).drew.cell? ((⟨W.heap.size,0,none⟩:Addr).add j)=some u):=by
  intro j u Q;have R:(W.alloc (.cells #[string y,string b,int i64 v,int i64 d] 229)).drew.heap[W.heap.size]?=some (.cells #[string y,string b,int i64 v,int i64 d] 229):=Ts _ _;rw[bX,ah R];simpa [sw] using Q
 have s3:Xr (∀u∈sw (y,⟨b,v,d⟩),u.oneCell'=true):=by
  intro u J;simp only[sw,List.mem_cons,List.not_mem_nil,or_false]at J;rcases J with rfl | rfl | rfl | rfl <;> rfl
 have s4:Xr ((iA w.XJ).n+1<=maxLen):=by show _<=_;simp only[iA];unfold maxLen;omega
 have s5:Xr (((iA w.XJ).n+1)*48<=140737488355328):=by show _<=_;simp only[iA];omega
 go_enter func207,ntmps207;go_upto_region 1 with fail
 rw[L.o];go_wp2_with (go_at_call 232;refine(fa y _ U).mono ?_;rintro e w1 ⟨rfl,rfl⟩);go_region_law (refine da rfl (.tmp 57) (.tmp 61) 156 rfl V (agg #[string ⟨#[]⟩,string ⟨#[]⟩,int i64 0,int i64 0]) 48 (H 9) (iA w.XJ) underlying156 q s t z rfl (WR 3) (by simp[Act.eval] <;> rfl) (F.o.X6 9) ⟨_,0,none⟩ 1 1 (sw (y,⟨b,v,d⟩)) (by simp[Act.eval] <;> rfl) rfl s2.o s3.o TQ s4.o s5.o ?_;intro g c w1 m k a;obtain⟨k5,f5,C⟩:=F.o.app (d':={ w with XJ:=w.XJ++[(y,⟨b,v,d⟩)] }) l 12 G 9 (by omega) g c ((iA w.XJ).n+1) _ m (Lb w.XJ (y,⟨b,v,d⟩)) k (by simpa using a) (yA w H _) (by omega) _ rfl (by simp[cJ,iI,iA]);clear m k a)
 all_goals go_wp2
 all_goals go_ret
 all_goals exact⟨au (by rw[E.o]),_,by rw[E.o];exact C.o.1,C.o.2.first (K.trans (kr0.alloc _).drew)⟩
theorem GC(h:aW i f n S x w H)(t:S.length=l)(u:y.size<=1073741824)(o:(w.XS==0)=false)(p:(w.XS==6)=false)(c:(y.toList == [36,46])=false)(g:(y.toList == [36,61])=true) :
  iZ f n l S x w H y b v d i:=by
 unfold iZ;obtain⟨W,m,K,D,R,T,U⟩:=boxed h b v d;clear h;obtain⟨F,G,I,J,L,M,N,O,V,P,q,j,r⟩:=D.cells l t;clear F G I J L M N O P q r;have E:=D.free;have s:=JF y g;cases z:(w.XS==5)
 ·have a:Xr (aZ w y ⟨b,v,d⟩=(8,w)):=by show aZ w y ⟨b,v,d⟩=_;simp[aZ,o,p,c,z,s]
  go_enter func207,ntmps207;go_upto_region 1 with fail
  rw[m.o];go_wp2_with (go_at_call 232;refine(fa y _ u).mono ?_;rintro e Q ⟨rfl,rfl⟩);go_ret;exact⟨au (by rw[a.o]),H,by rw[a.o];exact D,(aD.refl _ _ _).XD K⟩
 ·cases k:w.XC
  ·have a:Xr (aZ w y ⟨b,v,d⟩=cv w):=(by show aZ w y ⟨b,v,d⟩=_;simp only[aZ,o,p,c,g,z,k];simp);rw[k]at j;go_enter func207,ntmps207;(go_upto_region 1 with fail);rw[m.o];go_wp2_with fail;refine(xi f n l S x w H _ (by exact D) t).mono ?_;rintro e X ⟨rfl,B,A,C⟩;go_wp2;go_ret;exact⟨au (by rw[a.o]),B,by rw[a.o];exact A,C.first K⟩
  ·have a:Xr (aZ w y ⟨b,v,d⟩=(8,w)):=(by show aZ w y ⟨b,v,d⟩=_;simp[aZ,o,p,c,k,s]);rw[k]at j;go_enter func207,ntmps207;(go_upto_region 1 with fail);rw[m.o];go_wp2_with (go_at_call 232;refine(fa y _ u).mono ?_;rintro e Q ⟨rfl,rfl⟩);go_ret;exact⟨au (by rw[a.o]),H,by rw[a.o];exact D,(aD.refl _ _ _).XD K⟩
theorem Oi(h:aW i f n S x w H)(m:S.length=l)(N:gD w 10000000)(L:y.size<=1073741824)(M:Cu w 100000000) :
  iZ f n l S x w H y b v d i:=by
 cases q:(w.XS==0)
 ·cases F:(w.XS==6)
  ·cases k:(y.toList == [36,46])
   ·cases o:(y.toList == [36,61])
    ·cases O:dC y
     ·cases U:w.XC
      ·exact En f n l S x w H y b v d i h m N L q F k o O U
      ·exact zz f n l S x w H y b v d i h m N L q F k o O U
     ·unfold iZ;obtain⟨W,p,K,D,P,Q,R⟩:=boxed h b v d;clear h M;obtain⟨r,s,t,u,z,A,B,C,T,E,a,g,c⟩:=D.cells l m;clear r s t u z A B C E a c;have j:Xr (aZ w y ⟨b,v,d⟩=(8,w)):=(by show aZ w y ⟨b,v,d⟩=_;simp[aZ,q,F,k,o,O]);go_enter func207,ntmps207;(go_upto_region 1 with fail);rw[p.o];go_wp2_with (go_at_call 232;refine(fa y _ L).mono ?_;rintro e X ⟨rfl,rfl⟩);go_ret;exact⟨au (by rw[j.o]),H,by rw[j.o];exact D,(aD.refl _ _ _).XD K⟩
    ·exact GC f n l S x w H y b v d i h m L q F k o
   ·unfold iZ;obtain⟨W,p,K,D,P,Q,R⟩:=boxed h b v d;clear h M;obtain⟨r,s,t,u,z,A,B,C,T,E,a,g,c⟩:=D.cells l m;clear r s t u z A B C E a g c;have j:Xr (aZ w y ⟨b,v,d⟩=mt w ⟨b,v,d⟩):=(by show aZ w y ⟨b,v,d⟩=_;simp only[aZ,q,F,k];simp);go_enter func207,ntmps207;(go_upto_region 1 with fail);rw[p.o];go_wp2_with fail;refine(O4 f n l S x w H b v d _ (by exact D) m N).mono ?_;rintro e V ⟨rfl,I,G,J⟩;go_wp2;go_ret;exact⟨au (by rw[j.o]),I,by rw[j.o];exact G,J.first K⟩
  ·unfold iZ;obtain⟨W,p,K,D,P,Q,R⟩:=boxed h b v d;clear h M;obtain⟨r,s,t,u,z,A,B,C,T,E,a,g,c⟩:=D.cells l m;clear r s t u z A B C E a g c;have j:Xr (aZ w y ⟨b,v,d⟩=aJ w y):=(by show aZ w y ⟨b,v,d⟩=_;simp only[aZ,q,F];simp);go_enter func207,ntmps207;(go_upto_region 1 with fail);rw[p.o];go_wp2_with fail;refine(wB f n l S x w H y _ (by exact D) m).mono ?_;rintro e V ⟨rfl,I,G,J⟩;go_wp2;go_ret;exact⟨au (by rw[j.o]),I,by rw[j.o];exact G,J.first K⟩
 ·unfold iZ;obtain⟨W,p,K,D,P,Q,R⟩:=boxed h b v d;clear h;obtain⟨r,s,t,u,z,A,B,C,T,E,a,g,c⟩:=D.cells l m;clear r s t u z A B C E a g c;have j:Xr (aZ w y ⟨b,v,d⟩=ay w y):=by show aZ w y ⟨b,v,d⟩=_;simp only[aZ,q];simp
  go_enter func207,ntmps207;go_upto_region 1 with fail
  rw[p.o];go_wp2_with fail;refine(zx f n l S x w H y _ (by exact D) m N L M).mono ?_;rintro e V ⟨rfl,I,G,J⟩;go_wp2;go_ret;exact⟨au (by rw[j.o]),I,by rw[j.o];exact G,J.first K⟩
def fS:Db:=⟨[],[],[],[],[],[],[],[],0,⟨#[]⟩,[],false,[]⟩
abbrev pt:=Int×Pl
def cY:pt:=(0,⟨⟨#[]⟩,0,0⟩)
def iu(f:pt):Value:=agg #[int i64 f.1,string f.2.XY,int i64 f.2.XZ,int i64 f.2.X0]
def lp(n s:Xs)(p:Nat):Pl:=⟨n,aU s p,bJ s p⟩
def ju(n s:Xs)(i:tB):pt:=(if i.XX=true then 7 else i.X3,lp n s i.pos)
abbrev G6:=pt×List Bool×Db
def sO(fs:Fs)(x z:Nat)(p:Pl)(d:Db):pt ⊕ (Nat×Nat) :=
  if lL d=true then .inl (4,p)
  else if aM (aC (ak fs x) z).1=false then .inl (ju (aG fs x) (ak fs x) (aC (ak fs x) z).1)
  else if dC (aC (ak fs x) z).1.text=true then .inl (5,lp (aG fs x) (ak fs x) (aC (ak fs x) z).1.pos)
  else if bS fs (aC (ak fs x) z).1.text<0 then .inl (6,lp (aG fs x) (ak fs x) (aC (ak fs x) z).1.pos)
  else if aM (aC (ak fs x) (aC (ak fs x) z).2).1=false then .inl (ju (aG fs x) (ak fs x) (aC (ak fs x) (aC (ak fs x) z).2).1)
  else if((aC (ak fs x) (aC (ak fs x) z).2).1.text.toList == [36,93])=false then .inl (5,lp (aG fs x) (ak fs x) (aC (ak fs x) (aC (ak fs x) z).2).1.pos)
  else .inr ((bS fs (aC (ak fs x) z).1.text).toNat,(aC (ak fs x) (aC (ak fs x) z).2).2)
def od(rf:Nat->List Bool->Db->G6)(fs:Fs)(x z:Nat)(p:Pl)(bg:List Bool)(d:Db):G6×Nat :=
  match sO fs x z p d with
  | .inl f=>((f,bg,d),z)
  | .inr (j,z')=>(rf j bg d,z')
def kp(rf:Nat->List Bool->Db->G6)(fs:Fs)(x z:Nat)(t:Xs)(p:Pl)(bg:List Bool)(d:Db):G6×Nat :=
  if(t.toList == [36,91])=true then od rf fs x z p bg d
  else((if((aZ d t p).1==0)=true then cY else((aZ d t p).1,p),bg,(aZ d t p).2),z)
def bH(fs:Fs):Nat->Nat->Nat->List Bool->Db->G6
  | 0,_,_,bg,d=>(cY,bg,d)
  | f+1,x,k,bg,d =>
    if aM (aC (ak fs x) k).1=true then
      (if((kp (fun j bg d=>if bg.getD j true=true then(cY,bg,d) else bH fs f j 0 (bg.set j true) d) fs x (aC (ak fs x) k).2 (aC (ak fs x) k).1.text (lp (aG fs x) (ak fs x) (aC (ak fs x) k).1.pos) bg d).1.1.1==0)=true
       then bH fs f x (kp (fun j bg d=>if bg.getD j true=true then(cY,bg,d) else bH fs f j 0 (bg.set j true) d) fs x (aC (ak fs x) k).2 (aC (ak fs x) k).1.text (lp (aG fs x) (ak fs x) (aC (ak fs x) k).1.pos) bg d).2
          (kp (fun j bg d=>if bg.getD j true=true then(cY,bg,d) else bH fs f j 0 (bg.set j true) d) fs x (aC (ak fs x) k).2 (aC (ak fs x) k).1.text (lp (aG fs x) (ak fs x) (aC (ak fs x) k).1.pos) bg d).1.2.1
          (kp (fun j bg d=>if bg.getD j true=true then(cY,bg,d) else bH fs f j 0 (bg.set j true) d) fs x (aC (ak fs x) k).2 (aC (ak fs x) k).1.text (lp (aG fs x) (ak fs x) (aC (ak fs x) k).1.pos) bg d).1.2.2
       else(kp (fun j bg d=>if bg.getD j true=true then(cY,bg,d) else bH fs f j 0 (bg.set j true) d) fs x (aC (ak fs x) k).2 (aC (ak fs x) k).1.text (lp (aG fs x) (ak fs x) (aC (ak fs x) k).1.pos) bg d).1)
    else if(aC (ak fs x) k).1.XX=true/\lL d=false then(cY,bg,d) else(ju (aG fs x) (ak fs x) (aC (ak fs x) k).1,bg,d)
def cU(fs:Fs)(f:Nat)(j:Nat)(bg:List Bool)(d:Db):G6 :=
  if bg.getD j true=true then(cY,bg,d) else bH fs f j 0 (bg.set j true) d
def hZ(fs:Fs)(f x k:Nat)(bg:List Bool)(d:Db):G6×Nat :=
  kp (cU fs f) fs x (aC (ak fs x) k).2 (aC (ak fs x) k).1.text (lp (aG fs x) (ak fs x) (aC (ak fs x) k).1.pos) bg d
theorem zT(a:aM (aC (ak T n) l).1=true)(b:((hZ T f n l I w).1.1.1==0)=true) :
    bH T (f+1) n l I w=bH T f n (hZ T f n l I w).2 (hZ T f n l I w).1.2.1 (hZ T f n l I w).1.2.2:=by
  rw[bH,Tq a];exact Tq b
theorem pC(a:aM (aC (ak T n) l).1=true)(b:((hZ T f n l I w).1.1.1==0)=false) :
    bH T (f+1) n l I w=(hZ T f n l I w).1:=by
  rw[bH,Tq a];exact To (fun c=>Bool.noConfusion (b.symm.trans c))
theorem Bl(a:aM (aC (ak T n) l).1=false)(b:(aC (ak T n) l).1.XX=true)(c:lL w=false) :
    bH T (f+1) n l I w=(cY,I,w):=by
  rw[bH,To (by simp[a]),Tq ⟨b,c⟩]
theorem xI(a:aM (aC (ak T n) l).1=false)(b:¬((aC (ak T n) l).1.XX=true/\lL w=false)) :
    bH T (f+1) n l I w=(ju (aG T n) (ak T n) (aC (ak T n) l).1,I,w):=by
  rw[bH,To (by simp[a]),To b]
theorem kT{i:tB}(h:aM i=false)(a:i.XX=false):(i.X3==0)=false:=by
  simp[aM,a]at h;simpa using h
structure oG(d:Db)(m:Nat):Prop where
  XG:d.XG.length<=m
  XA:d.XA.length+d.Xy.length<=m
  XB:d.XB.length+d.Xy.length<=m
  XH:d.XH.length+d.Xy.length<=m
  XK:d.XK.length+d.Xy.length<=m
  XV:d.XV.length<=m
  XP:d.XP.length<=m
  XJ:d.XJ.length<=m
  inner:∀p,p∈d.XV->p.1<=m/\p.2<=m
  same:d.rbl.length=d.XV.length
  recs:∀x,x∈d.rbl->x<=d.XP.length
theorem oG.small{N:Nat}(h:oG k a)(c:a<=N):gD k N/\Cu k N :=
  ⟨⟨by have:=h.XG;omega,by have:=h.XA;omega,by have:=h.XB;omega,by have:=h.XH;omega,by have:=h.XK;omega,by have:=h.XV;omega,by have:=h.XP;omega,by have:=h.XV;have:=h.same;omega,by have:=h.XA;omega,by have:=h.XJ;omega⟩,
   ⟨fun p b=>by have:=h.inner p b;omega,h.same,h.recs⟩⟩
theorem oG.mono{m':Nat}(h:oG k a)(c:a<=m'):oG k m' :=
  ⟨by have:=h.XG;omega,by have:=h.XA;omega,by have:=h.XB;omega,by have:=h.XH;omega,by have:=h.XK;omega,by have:=h.XV;omega,by have:=h.XP;omega,by have:=h.XJ;omega,fun p b=>by have:=h.inner p b;omega,h.same,h.recs⟩
theorem oG.empty:oG fS 0:=by
  refine⟨?_,?_,?_,?_,?_,?_,?_,?_,?_,?_,?_⟩ <;> simp[fS]
theorem oG.plain(h:oG k a)(c:Int)(l:Xs)(b:Bool):oG { k with XS:=c,XU:=l,XC:=b } a:=⟨h.XG,h.XA,h.XB,h.XH,h.XK,h.XV,h.XP,h.XJ,h.inner,h.same,h.recs⟩
theorem xu(l:List St)(b:Nat):(kD l b).length=l.length:=kP l b l.length
theorem oG.declare(h:oG k a)(p:Pl):oG { aX k p with XS:=0,XU:=⟨#[]⟩,Xy:=[],XC:=false,XJ:=[] } (a+1):=by
  have e:=h.XA;have f:=h.XB;have g:=h.XH;have i:=h.XK;have b:=h.mono (Wp a);unfold aX;split
  · exact⟨b.XG,by simp;omega,by simp;omega,by simp;omega,by simp;omega,b.XV,b.XP,by simp,b.inner,b.same,b.recs⟩
  · split
    · have:=EC k.XB (k.Xy.take k.Xy.length)
      simp only[List.take_length]at this;exact⟨b.XG,by simp[eD];omega,by simp[eD];omega,by simp[eD];omega,by simp[eD];omega,b.XV,b.XP,by simp,b.inner,b.same,b.recs⟩
    · unfold nW nF
      have:=h.XP;split
      · next j=>exact⟨b.XG,by simp;omega,by simp;omega,by simp;omega,by simp;omega,b.XV,by simp;omega,by simp,b.inner,b.same,fun x c=>by have:=h.recs x c;simp;omega⟩
      · exact⟨b.XG,by simp;omega,by simp;omega,by simp;omega,by simp;omega,b.XV,by simp;omega,by simp,b.inner,b.same,fun x c=>by have:=h.recs x c;simp;omega⟩
theorem oG.take(h:oG k a)(x:Xs)(o:Pl):oG (aZ k x o).2 (a+1):=by
  have b:=h.mono (Wp a);have c:=fun r=>b.plain r k.XU k.XC;have s:=h.XG;have t:=h.XA;have u:=h.XB;have v:=h.XH;have w:=h.XK;have z:=h.XV;have l:oG (bU k x).2 (a+1):=by
    unfold bU;split
    · exact b
    · split
      · exact b
      · split
        · exact b
        · exact⟨by simp;omega,b.XA,b.XB,b.XH,b.XK,b.XV,b.XP,b.XJ,b.inner,b.same,b.recs⟩
  have j:oG (aJ k x).2 (a+1):=by
    unfold aJ;split
    · exact c 2
    · split
      · exact c 3
      · split
        · exact c 4
        · split
          · exact c 5
          · exact b
  have i:oG (ay k x).2 (a+1):=by
    unfold ay;split
    · refine⟨b.XG,b.XA,b.XB,b.XH,b.XK,by simp;omega,b.XP,b.XJ,?_,by simp[h.same],?_⟩
      · intro p d
        simp only[List.mem_append,List.mem_singleton]at d;rcases d with d | rfl
        · exact b.inner p d
        · simp only;omega
      · intro y f
        simp only[List.mem_append,List.mem_singleton]at f;rcases f with f | rfl
        · exact h.recs y f
        · exact Tp _
    · split
      · split
        · exact b
        · next p d =>
          unfold cQ;have n:k.rbl≠[]:=by
            intro e;have:=h.same;rw[e,sQ d]at this;simp at this
          obtain⟨y,f⟩:∃y,k.rbl.getLast?=some y:=⟨_,VB n⟩
          rw[f];refine⟨b.XG,b.XA,b.XB,?_,?_,?_,?_,b.XJ,?_,?_,?_⟩
          · simp only[dw,List.length_take];omega
          · simp only[dw,List.length_take];omega
          · simp only[dw,List.length_dropLast];omega
          · show(kD k.XP y).length<=_;rw[xu];exact b.XP
          · intro q m
            simp only[dw]at m;exact b.inner q (WH _ m)
          · simp only[dw,List.length_dropLast,h.same]
          · intro q m
            show q<=(kD k.XP y).length;rw[xu];exact h.recs q (WH _ m)
      · split
        · split
          · exact b
          · exact c 7
        · split
          · exact c 8
          · split
            · exact c 1
            · split
              · exact b
              · exact l
  have g:oG (mt k o).2 (a+1):=by
    unfold mt;split
    · exact b
    · split
      · exact b
      · exact h.declare o
  unfold aZ;split
  · exact i
  · split
    · exact j
    · split
      · exact g
      · split
        · unfold cv
          split
          · exact b
          · exact b.plain k.XS k.XU true
        · split
          · exact b
          · split
            · exact⟨b.XG,b.XA,b.XB,b.XH,b.XK,b.XV,b.XP,by have:=h.XJ;simp;omega,b.inner,b.same,b.recs⟩
            · split
              · exact⟨b.XG,by simp;omega,by simp;omega,by simp;omega,by simp;omega,b.XV,b.XP,b.XJ,b.inner,b.same,b.recs⟩
              · exact b
def OI(fs:Fs)(bg:List Bool)(j:Nat):Nat:=if bg.getD j true=true then 0 else(ak fs j).size+2
def eR(fs:Fs)(bg:List Bool):Nat:=OI fs bg 0+OI fs bg 1+OI fs bg 2+OI fs bg 3
theorem xV(f:I.length=4)(e:I.getD s true=false):eR T (I.set s true)+(ak T s).size+2=eR T I:=by
  match I,f with
  | [a,b,c,d],_ =>
    match s with
    | 0=>simp at e;subst e;simp[eR,OI];omega
    | 1=>simp at e;subst e;simp[eR,OI];omega
    | 2=>simp at e;subst e;simp[eR,OI];omega
    | 3=>simp at e;subst e;simp[eR,OI];omega
    | s+4=>simp at e
def Sv(fs:Fs)(bg:List Bool)(m:Nat)(r:G6):Prop :=
  r.2.1.length=4/\eR fs r.2.1<=eR fs bg/\∃m',oG r.2.2 m'/\m'+eR fs r.2.1<=m+eR fs bg
theorem Ek(n:∀j a d m,a.length=4->oG d m->Sv T a m (cU T s j a d))(x k:Nat)(a:List Bool)(d:Db)(m:Nat)(p:k<=(ak T x).size)(l:a.length=4)(g:oG d m)(q:aM (aC (ak T x) k).1=true) :
    Sv T a (m+1) (hZ T s x k a d).1/\k<(hZ T s x k a d).2/\(hZ T s x k a d).2<=(ak T x).size:=by
  have e:=go (ak T x) k p;have c:=e.2.2 q;unfold hZ kp;split
  · unfold od
    split
    · exact⟨⟨l,Tp _,m,g,by simp only;omega⟩,c,e.2.1⟩
    · next j y b =>
      have f:=n j a d m l g;refine⟨⟨f.1,f.2.1,?_⟩,?_⟩
      · obtain⟨t,u,w⟩:=f.2.2;exact⟨t,u,by simp only;omega⟩
      · unfold sO at b
        have r:=go (ak T x) (aC (ak T x) k).2 e.2.1;have v:=go (ak T x) (aC (ak T x) (aC (ak T x) k).2).2 r.2.1
        repeat' split at b
        all_goals first | (cases b;done) | skip
        injection b with b
        injection b with o i
        subst i;omega
  · exact⟨⟨l,Tp _,m+1,g.take _ _,by simp only;omega⟩,c,e.2.1⟩
theorem MV(f:Nat):(∀x k a d m,k<=(ak T x).size->a.length=4->oG d m->(bH T f x k a d).2.1.length=4/\eR T (bH T f x k a d).2.1<=eR T a/\∃c,oG (bH T f x k a d).2.2 c/\c+eR T (bH T f x k a d).2.1<=m+((ak T x).size-k)+eR T a) /\
    (∀j a d m,a.length=4->oG d m->Sv T a m (cU T f j a d)):=by
  have b:∀f,(∀x k a d m,k<=(ak T x).size->a.length=4->oG d m->(bH T f x k a d).2.1.length=4/\eR T (bH T f x k a d).2.1<=eR T a/\∃c,oG (bH T f x k a d).2.2 c/\c+eR T (bH T f x k a d).2.1<=m+((ak T x).size-k)+eR T a) ->
      (∀j a d m,a.length=4->oG d m->Sv T a m (cU T f j a d)):=by
    intro f h j a d m e g;unfold cU;split
    · exact⟨e,Tp _,m,g,Tp _⟩
    · next v =>
      have n:a.getD j true=false:=(by simpa using v);have E:=xV T a j e n;have:=h j 0 (a.set j true) d m (Ub _) (by simpa using e) g;refine⟨this.1,by omega,?_⟩;obtain⟨c,y,F⟩:=this.2.2;exact⟨c,y,by omega⟩
  induction f with
  | zero =>
    have o:∀x k a d m,k<=(ak T x).size->a.length=4->oG d m->(bH T 0 x k a d).2.1.length=4/\eR T (bH T 0 x k a d).2.1<=eR T a/\∃c,oG (bH T 0 x k a d).2.2 c/\c+eR T (bH T 0 x k a d).2.1<=m+((ak T x).size-k)+eR T a:=by
      intro x k a d m q e g;exact⟨e,Tp _,m,g,by simp only[bH];omega⟩
    exact⟨o,b 0 o⟩
  | succ f r =>
    have p:∀x k a d m,k<=(ak T x).size->a.length=4->oG d m->(bH T (f+1) x k a d).2.1.length=4/\eR T (bH T (f+1) x k a d).2.1<=eR T a/\∃c,oG (bH T (f+1) x k a d).2.2 c/\c+eR T (bH T (f+1) x k a d).2.1<=m+((ak T x).size-k)+eR T a:=by
      intro x k a d m q e g;cases l:aM (aC (ak T x) k).1 with
      | true =>
        have D:=Ek T f r.2 x k a d m q e g l;obtain⟨⟨t,B,s,u,I⟩,J,C⟩:=D;cases i:((hZ T f x k a d).1.1.1==0) with
        | true =>
          rw[zT T f x k a d l i];obtain⟨z,G,w,A,H⟩:=r.1 x (hZ T f x k a d).2 (hZ T f x k a d).1.2.1 (hZ T f x k a d).1.2.2 s C t u;exact⟨z,by omega,w,A,by omega⟩
        | false =>
          rw[pC T f x k a d l i];exact⟨t,B,s,u,by omega⟩
      | false =>
        by_cases i:(aC (ak T x) k).1.XX=true/\lL d=false
        · rw[Bl T f x k a d l i.1 i.2];exact⟨e,Tp _,m,g,by simp only;omega⟩
        · rw[xI T f x k a d l i];exact⟨e,Tp _,m,g,by simp only;omega⟩
    exact⟨p,b (f+1) p⟩
theorem zj(k:Nat)(a:b.size<=1024):(bh b k).1.text.size<=1024:=by
  unfold bh;generalize b.size-k+1=f
  induction f generalizing k with
  | zero=>simp[ci,ByteArray.size]
  | succ f c =>
    rw[ci];split
    · split
      · simp[ByteArray.size]
      · exact c _
    · split
      · simp[ByteArray.size]
      · exact rJ b k a
theorem sU(k:Nat)(a:b.size<=1024):(aC b k).1.text.size<=1024:=by
  unfold aC;generalize b.size-k+1=f
  induction f generalizing k with
  | zero=>simp[dY,ByteArray.size]
  | succ f c =>
    rw[dY];split
    · split
      · exact c _
      · exact zj b _ a
    · exact rJ b k a
theorem GD:(aZ w b z0).2.XJ=w.XJ∨(aZ w b z0).2.XJ=[]∨(aZ w b z0).2.XJ=w.XJ++[(b,z0)]:=by
 unfold aZ;split
 ·left
  unfold ay;split
  ·rfl
  ·split
   ·split
    ·rfl
    ·unfold cQ;split <;> rfl
   ·split
    ·split <;> rfl
    ·split
     ·rfl
     ·split
      ·rfl
      ·split
       ·rfl
       ·unfold bU
        repeat' split
        all_goals rfl
 ·split
  ·left;unfold aJ
   repeat' split
   all_goals rfl
  ·split
   ·unfold mt;split
    ·left;rfl
    ·split
     ·left;rfl
     ·right;left;rfl
   ·split
    ·left;unfold cv;split <;> rfl
    ·split
     ·left;rfl
     ·split
      ·right;right;rfl
      ·split
       ·left;rfl
       ·left;rfl
theorem Ol:(aZ w b z0).2.XP=w.XP∨(∃y∈w.rbl,(aZ w b z0).2.XP=kD w.XP y)∨((aZ w b z0).2.XP=w.XP++[⟨w.XS,w.XU,w.Xy,w.XJ,z0,0⟩]/\0<w.Xy.length):=by
 unfold aZ;split
 ·unfold ay;split
  ·left;rfl
  ·split
   ·split
    ·left;rfl
    ·unfold cQ;split
     ·left;rfl
     ·next y d=>right;left;exact⟨y,List.mem_of_getLast? d,rfl⟩
   ·split
    ·split <;> (left;rfl)
    ·split
     ·left;rfl
     ·split
      ·left;rfl
      ·split
       ·left;rfl
       ·left;unfold bU
        repeat' split
        all_goals rfl
 ·split
  ·left;unfold aJ
   repeat' split
   all_goals rfl
  ·split
   ·unfold mt;split
    ·left;rfl
    ·next c =>
     have a:0<w.Xy.length:=by
      unfold mP at c;split at c <;> omega
     split
     ·left;rfl
     ·unfold aX;split
      ·left;rfl
      ·split
       ·left;rfl
       ·right;right
        refine⟨?_,a⟩;unfold nW;split <;> rfl
   ·split
    ·left;unfold cv;split <;> rfl
    ·split
     ·left;rfl
     ·split
      ·left;rfl
      ·split
       ·left;rfl
       ·left;rfl
structure Th(S:List St)(d:Db):Prop where
 pre:∃m,d.XP=S++m
 rbl:∀y∈d.rbl,S.length<=y
structure Rw where
 XU:Xs
 XE:Int
 why:Int
 at_:Pl
def nR(r:Rw):List Value:=[string r.XU,int i64 r.XE,int i64 r.why,string r.at_.XY,int i64 r.at_.XZ,int i64 r.at_.X0]
def lG(l:List Rw):List Value:=l.flatMap nR
def lm:Pl:=⟨⟨#[]⟩,0,0⟩
def qr:Rw:=⟨⟨#[]⟩,0,0,lm⟩
theorem Sc:(prog.info? 38).map (fun i=>(i.zero,i.size,i.bytes))=some (some (agg #[string ⟨#[]⟩,int i64 0,int i64 0,string ⟨#[]⟩,int i64 0,int i64 0]),6,64):=by kernel_rfl
theorem Ee(l:List Rw):(lG l).length=l.length*6:=by
 induction l with
 | nil=>rfl
 | cons x r a =>
  have e:lG (x :: r)=nR x++lG r:=rfl;rw[e,Tu,a];simp[nR];omega
theorem IQ(l:List Rw)(k:Nat)(a:k<l.length)(j:Nat)(d:j<6):(lG l)[k*6+j]?=(nR l[k])[j]?:=by
 induction l generalizing k with
 | nil=>simp at a
 | cons s r c =>
  have e:lG (s :: r)=nR s++lG r:=rfl;rw[e];cases k with
  | zero=>rw[TP (by simp[nR];omega)];simp
  | succ k =>
   rw[TI (by simp[nR];omega)];have b:(k+1)*6+j-(nR s).length=k*6+j:=by simp[nR];omega
   rw[b,c k (by simpa using a)];rfl
def LU(p:Pl):Prop:=-1000000000<=p.XZ/\p.XZ<=1000000000
structure SM(L:List Rw):Prop where
 len:L.length<=100000
 XZ:∀r∈L,LU r.at_
end Go.Proofs.YtnbhnocdhbcbcaaGreat

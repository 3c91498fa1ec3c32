import Derived.Test.YtpdholcaobgofaaGreatP04
namespace Go.Proofs.YtpdholcaobgofaaGreat
open Go.RowKit Tryz
open Value IntKind Ending
set_option maxHeartbeats 0
variable{v:Db}{a g:Nat}{o:World}{L m:List Value}{D:Nat->Hd}(T:Fs)(f n l:Nat)(S x:List Value)(I:List Bool)(w:Db)(H:Nat->Hd)(y b:Xr)(d k:Int)(i:World)(s:List St)(z0:Nat)(z1:Pl)
def kl(d:Db)(x:Xr):Int:=if aN d.Zbn x=false then 18 else if aN d.Zbe x=true then 19 else 0
def iZ(d:Db)(x:Xr):Int:=if aN d.Zbg x=false then 17 else 0
def fF(d:Db)(x:Xr):Int:=if 1<d.Zbe.length then 16 else if aN d.Zbn x=false then 18 else if aN d.Zbq x=true then 20 else 0
def gK(d:Db)(x:Xr):Int:=if aN d.Zbg x=true then 0 else if aN d.Zbn x=false then 21 else if aN d.Zbq x=false then 22 else 0
def bh(d:Db)(x:Xr):Int :=
 if(d.Zby==7)=true then(if aN d.Zbe x=true∨eB d x=true then 13 else 0)
 else if(d.Zby==8)=true then(if aN d.Zbe x=true∨eI d x=true then 13 else 0)
 else if(d.Zby==1)=true then kl d x
 else if d.Zbe.length=0 then iZ d x
 else if(d.Zby==2)=true then fF d x
 else gK d x
theorem vW(h:a9 i f n S x w H)(a:S.length=l)(c:hZ w 1073741824) :
  Calls prog 255 #[pointer (some ⟨f,l,none⟩),string b] i fun e o=>e=returned (int i64 (kl w b))/\o=i:=by
 obtain⟨q,r,s,t,u,v,y,z,A,B,j,k,m⟩:=h.cells l a;cases d:aN w.Zbn b <;> cases g:aN w.Zbe b
 all_goals
  go_enter func255,ntmps255;go_wp2_with (first | (go_at_call 268;refine(md f n l S x w H b _ (by exact h) a c.Zbn).mono ?_;rintro e p ⟨rfl,rfl⟩) | (go_at_call 252;refine(fP (H 8) w.Zbe b _ (by exact h.ZbH 8) c.Zbe).mono ?_;rintro e p ⟨rfl,rfl⟩));go_ret;exact⟨au (by simp[kl,d,g]),rfl⟩
theorem vY(h:a9 i f n S x w H)(a:S.length=l)(d:hZ w 1073741824) :
  Calls prog 256 #[pointer (some ⟨f,l,none⟩),string b] i fun e m=>e=returned (int i64 (iZ w b))/\m=i:=by
 obtain⟨o,p,q,r,s,t,u,v,y,z,g,j,k⟩:=h.cells l a;cases c:aN w.Zbg b
 all_goals
  go_enter func256,ntmps256;go_wp2_with (first | (go_at_call 269;refine(o8 f n l S x w H b _ (by exact h) a d.Zbg).mono ?_;rintro e A ⟨rfl,rfl⟩));go_ret;exact⟨au (by simp[iZ,c]),rfl⟩
theorem vX(h:a9 i f n S x w H)(a:S.length=l)(c:hZ w 1073741824) :
  Calls prog 257 #[pointer (some ⟨f,l,none⟩),string b] i fun e r=>e=returned (int i64 (fF w b))/\r=i:=by
 obtain⟨s,t,u,v,y,z,A,B,C,D,o,p,q⟩:=h.cells l a;have m:=c.Zbe;by_cases g:1<w.Zbe.length
 ·go_enter func257,ntmps257;go_wp2_with (first | (go_at_call 268;refine(md f n l S x w H b _ (by exact h) a c.Zbn).mono ?_;rintro e d ⟨rfl,rfl⟩) | (go_at_call 270;refine(pQ f n l S x w H b _ (by exact h) a c.Zbq).mono ?_;rintro e d ⟨rfl,rfl⟩));go_ret;exact⟨au (by simp[fF,g]),rfl⟩
 ·cases j:aN w.Zbn b <;> cases k:aN w.Zbq b
  all_goals
   go_enter func257,ntmps257;go_wp2_with (first | (go_at_call 268;refine(md f n l S x w H b _ (by exact h) a c.Zbn).mono ?_;rintro e d ⟨rfl,rfl⟩) | (go_at_call 270;refine(pQ f n l S x w H b _ (by exact h) a c.Zbq).mono ?_;rintro e d ⟨rfl,rfl⟩));go_ret;exact⟨au (by simp[fF,g,j,k]),rfl⟩
theorem uy(h:a9 i f n S x w H)(a:S.length=l)(c:hZ w 1073741824) :
  Calls prog 258 #[pointer (some ⟨f,l,none⟩),string b] i fun e q=>e=returned (int i64 (gK w b))/\q=i:=by
 obtain⟨r,s,t,u,v,y,z,A,B,C,m,o,p⟩:=h.cells l a;cases g:aN w.Zbg b
 ·cases j:aN w.Zbn b <;> cases k:aN w.Zbq b
  all_goals
   go_enter func258,ntmps258;go_wp2_with (first | (go_at_call 269;refine(o8 f n l S x w H b _ (by exact h) a c.Zbg).mono ?_;rintro e d ⟨rfl,rfl⟩) | (go_at_call 268;refine(md f n l S x w H b _ (by exact h) a c.Zbn).mono ?_;rintro e d ⟨rfl,rfl⟩) | (go_at_call 270;refine(pQ f n l S x w H b _ (by exact h) a c.Zbq).mono ?_;rintro e d ⟨rfl,rfl⟩));go_ret;exact⟨au (by simp[gK,g,j,k]),rfl⟩
 ·go_enter func258,ntmps258;go_wp2_with (first | (go_at_call 269;refine(o8 f n l S x w H b _ (by exact h) a c.Zbg).mono ?_;rintro e d ⟨rfl,rfl⟩) | (go_at_call 268;refine(md f n l S x w H b _ (by exact h) a c.Zbn).mono ?_;rintro e d ⟨rfl,rfl⟩) | (go_at_call 270;refine(pQ f n l S x w H b _ (by exact h) a c.Zbq).mono ?_;rintro e d ⟨rfl,rfl⟩));go_ret;exact⟨au (by simp[gK,g]),rfl⟩
theorem rU(h:a9 i f n S x w H)(d:S.length=l)(a:hZ w 1073741824) :
  Calls prog 235 #[pointer (some ⟨f,l,none⟩),string b] i fun e y=>e=returned (int i64 (bh w b))/\y=i:=by
 obtain⟨z,A,B,C,D,E,F,G,I,J,t,u,v⟩:=h.cells l d;cases k:(w.Zby==7)
 ·cases m:(w.Zby==8)
  ·cases o:(w.Zby==1)
   ·by_cases g:w.Zbe.length=0
    ·have c:Xq (bh w b=iZ w b):=(by show bh w b=_;simp only[bh,k,m,o,g];simp);have r:((w.Zbe.length:Int)==0)=true:=(by simp[g]);clear g;go_enter func235,ntmps235;go_wp2_with (first | (go_at_call 256;refine(vY f n l S x w H b _ (by exact h) d a).mono ?_;rintro e j ⟨rfl,rfl⟩));go_ret;exact⟨au (by rw[c.o]),rfl⟩
    ·have r:((w.Zbe.length:Int)==0)=false:=X6.2 (by omega);cases s:(w.Zby==2)
     ·have c:Xq (bh w b=gK w b):=(by show bh w b=_;simp[bh,k,m,o,s,g]);clear g;go_enter func235,ntmps235;go_wp2_with (first | (go_at_call 258;refine(uy f n l S x w H b _ (by exact h) d a).mono ?_;rintro e j ⟨rfl,rfl⟩));go_ret;exact⟨au (by rw[c.o]),rfl⟩
     ·have c:Xq (bh w b=fF w b):=(by show bh w b=_;simp[bh,k,m,o,s,g]);clear g;go_enter func235,ntmps235;go_wp2_with (first | (go_at_call 257;refine(vX f n l S x w H b _ (by exact h) d a).mono ?_;rintro e j ⟨rfl,rfl⟩));go_ret;exact⟨au (by rw[c.o]),rfl⟩
   ·have c:Xq (bh w b=kl w b):=(by show bh w b=_;simp[bh,k,m,o]);go_enter func235,ntmps235;go_wp2_with (first | (go_at_call 255;refine(vW f n l S x w H b _ (by exact h) d a).mono ?_;rintro e j ⟨rfl,rfl⟩));go_ret;exact⟨au (by rw[c.o]),rfl⟩
  ·cases p:aN w.Zbe b <;> cases q:eI w b
   all_goals
    go_enter func235,ntmps235;go_wp2_with (first | (go_at_call 252;refine(fP (H 8) w.Zbe b _ (by exact h.ZbH 8) a.Zbe).mono ?_;rintro e j ⟨rfl,rfl⟩) | (go_at_call 254;refine(EB f n l S x w H b _ (by exact h) d a).mono ?_;rintro e j ⟨rfl,rfl⟩));go_ret;exact⟨au (by simp[bh,k,m,p,q]),rfl⟩
 ·cases p:aN w.Zbe b <;> cases q:eB w b
  all_goals
   go_enter func235,ntmps235;go_wp2_with (first | (go_at_call 252;refine(fP (H 8) w.Zbe b _ (by exact h.ZbH 8) a.Zbe).mono ?_;rintro e j ⟨rfl,rfl⟩) | (go_at_call 253;refine(nN f n l S x w H b _ (by exact h) d a).mono ?_;rintro e j ⟨rfl,rfl⟩));go_ret;exact⟨au (by simp[bh,k,p,q]),rfl⟩
theorem hZ.mono{M:Nat}(h:hZ v a)(b:a<=M):hZ v M :=
 ⟨XF h.Zbm b,XF h.Zbg b,XF h.Zbh b,XF h.Zbn b,XF h.Zbq b,XF h.ZbA b,XF h.Zbv b,XF h.rbl b,XF h.Zbe b,XF h.Zbp b⟩
theorem a9.Zby(h:a9 o a g L m v D)(b:Nat)(d:L.length=b)(k:Int) :
  Xq (a9 (o.setCell ⟨a,b+8,none⟩ (int i64 k)) a g L m { v with Zby:=k } D/\aw a o D (o.setCell ⟨a,b+8,none⟩ (int i64 k)) D) :=
 h.set (d':={ v with Zby:=k }) b 8 d (Pt v D k) _ (by omega) rfl
theorem a9.lab(h:a9 o a g L m v D)(b:Nat)(d:L.length=b)(k:Xr) :
  Xq (a9 (o.setCell ⟨a,b+9,none⟩ (string k)) a g L m { v with Zbz:=k } D/\aw a o D (o.setCell ⟨a,b+9,none⟩ (string k)) D) :=
 h.set (d':={ v with Zbz:=k }) b 9 d (KU v D k) _ (by omega) rfl
theorem a9.Zbi(h:a9 o a g L m v D)(b:Nat)(d:L.length=b)(k:Bool) :
  Xq (a9 (o.setCell ⟨a,b+11,none⟩ (bool k)) a g L m { v with Zbi:=k } D/\aw a o D (o.setCell ⟨a,b+11,none⟩ (bool k)) D) :=
 h.set (d':={ v with Zbi:=k }) b 11 d (Fc v D k) _ (by omega) rfl
theorem a9.forget(h:a9 o a g L m v D)(b:Nat)(d:L.length=b) :
  a9 (o.setCell ⟨a,b+10,none⟩ (slice none 0 0)) a g L m { v with Zbe:=[] } (gj D 8 ⟨none,0⟩)/\aw a o D (o.setCell ⟨a,b+10,none⟩ (slice none 0 0)) (gj D 8 ⟨none,0⟩) :=
 h.put (d':={ v with Zbe:=[] }) b 10 d 8 (by omega) ⟨none,0⟩ ⟨by simp[bi,aE,dc],XQ ⟨by simp[bi,aE],by simp[bi,aE]⟩⟩ (ZaF _ _) (XQ rfl) (wS v D []) _ (by omega) (by simp[da,gj])
theorem a9.noProof(h:a9 o a g L m v D)(b:Nat)(d:L.length=b) :
  a9 (o.setCell ⟨a,b+12,none⟩ (slice none 0 0)) a g L m { v with Zbp:=[] } (gj D 9 ⟨none,0⟩)/\aw a o D (o.setCell ⟨a,b+12,none⟩ (slice none 0 0)) (gj D 9 ⟨none,0⟩) :=
 h.put (d':={ v with Zbp:=[] }) b 12 d 9 (by omega) ⟨none,0⟩ ⟨by simp[bi,jd,qn],XQ ⟨by simp[bi,jd],by simp[bi,jd]⟩⟩ (ZaF _ _) (XQ rfl) (Bf v D []) _ (by omega) (by simp[da,gj])
def aJ(d:Db)(x:Xr):Int×Db :=
 if(x.toList == [36,102])=true then(0,{ d with Zby:=2 })
 else if(x.toList == [36,101])=true then(0,{ d with Zby:=3 })
 else if(x.toList == [36,97])=true then(0,{ d with Zby:=4 })
 else if(x.toList == [36,112])=true then(0,{ d with Zby:=5 })
 else(14,d)
def cr(d:Db):Int×Db:=if d.Zbe.length=0 then(15,d) else(0,{ d with Zbi:=true })
def bS(d:Db)(x:Xr):Int×Db :=
 if dO x=true then(8,d) else if ja x=false then(12,d) else if eB d x=true then(13,d)
 else(0,{ d with Zbm:=d.Zbm++[x],Zbz:=x,Zby:=6 })
def l9(d:Db)(p:Pl):Int×Db :=
 if(d.Zbe.length:Int)<oe d then(15,d)
 else if(d.Zby==5)=true/\d.Zbi=false then(23,d)
 else(0,{ aW d p with Zby:=0,Zbz:=⟨#[]⟩,Zbe:=[],Zbi:=false,Zbp:=[] })
def cZ(d:Db)(q:Nat×Nat):Db :=
 match d.rbl.getLast? with
 | none=>dI d d.ZbA.dropLast q
 | some x=>{ dI d d.ZbA.dropLast q with rbl:=d.rbl.dropLast,Zbv:=ig d.Zbv x }
def aC(d:Db)(x:Xr):Int×Db :=
 if(x.toList == [36,123])=true then(0,{ d with ZbA:=d.ZbA++[(d.Zbn.length,d.Zbq.length)],rbl:=d.rbl++[d.Zbv.length] })
 else if(x.toList == [36,125])=true then(match d.ZbA.getLast? with | none=>(9,d) | some p=>(0,cZ d p))
 else if(x.toList == [36,99])=true then(if 0<d.ZbA.length then(10,d) else(0,{ d with Zby:=7 }))
 else if(x.toList == [36,118])=true then(0,{ d with Zby:=8 })
 else if(x.toList == [36,100])=true then(0,{ d with Zby:=1 })
 else if(x.toList == [36,102])=true∨(x.toList == [36,101])=true∨(x.toList == [36,97])=true∨(x.toList == [36,112])=true then(11,d)
 else bS d x
def aY(d:Db)(x:Xr)(p:Pl):Int×Db :=
 if(d.Zby==0)=true then aC d x
 else if(d.Zby==6)=true then aJ d x
 else if(x.toList == [36,46])=true then l9 d p
 else if(x.toList == [36,61])=true/\(d.Zby==5)=true/\d.Zbi=false then cr d
 else if dO x=true then(8,d)
 else if d.Zbi=true then(0,{ d with Zbp:=d.Zbp++[(x,p)] })
 else if(bh d x==0)=true then(0,{ d with Zbe:=d.Zbe++[x] })
 else(bh d x,d)
set_option maxRecDepth 100000
theorem zg(h:a9 i f n S x w H)(o:S.length=l) :
  Calls prog 232 #[pointer (some ⟨f,l,none⟩),string b] i fun e q=>e=returned (int i64 (aJ w b).1)/\∃p,a9 q f n S x (aJ w b).2 p/\aw f i H q p:=by
 obtain⟨v,y,z,A,B,C,D,E,F,G,s,t,u⟩:=h.cells l o;have r:=h.free;cases a:(b.toList == [36,102])
 ·cases d:(b.toList == [36,101])
  ·cases m:(b.toList == [36,97])
   ·cases j:(b.toList == [36,112])
    ·have c:Xq (aJ w b=(14,w)):=(by show aJ w b=_;simp only[aJ,a,d,m,j];simp);go_enter func232,ntmps232;go_wp2;go_ret;exact⟨au (by rw[c.o]),H,by rw[c.o];exact h,aw.refl _ _ _⟩
    ·have c:Xq (aJ w b=(0,{ w with Zby:=5 })):=(by show aJ w b=_;simp only[aJ,a,d,m,j];simp);have g:=h.Zby l o 5;go_enter func232,ntmps232;go_wp2;go_ret;exact⟨au (by rw[c.o]),H,by rw[c.o];exact g.o.1,g.o.2⟩
   ·have c:Xq (aJ w b=(0,{ w with Zby:=4 })):=(by show aJ w b=_;simp only[aJ,a,d,m];simp);have g:=h.Zby l o 4;go_enter func232,ntmps232;go_wp2;go_ret;exact⟨au (by rw[c.o]),H,by rw[c.o];exact g.o.1,g.o.2⟩
  ·have c:Xq (aJ w b=(0,{ w with Zby:=3 })):=(by show aJ w b=_;simp only[aJ,a,d];simp);have g:=h.Zby l o 3;go_enter func232,ntmps232;go_wp2;go_ret;exact⟨au (by rw[c.o]),H,by rw[c.o];exact g.o.1,g.o.2⟩
 ·have c:Xq (aJ w b=(0,{ w with Zby:=2 })):=by show aJ w b=_;simp only[aJ,a];simp
  have g:=h.Zby l o 2;go_enter func232,ntmps232;go_wp2;go_ret;exact⟨au (by rw[c.o]),H,by rw[c.o];exact g.o.1,g.o.2⟩
theorem zP(h:a9 i f n S x w H)(j:S.length=l) :
  Calls prog 234 #[pointer (some ⟨f,l,none⟩)] i fun e k=>e=returned (int i64 (cr w).1)/\∃d,a9 k f n S x (cr w).2 d/\aw f i H k d:=by
 obtain⟨s,t,u,v,y,z,A,B,C,D,p,q,r⟩:=h.cells l j;have o:=h.free;by_cases b:w.Zbe.length=0
 ·have a:Xq (cr w=(15,w)):=by show cr w=_;simp only[cr,b];simp
  have c:((w.Zbe.length:Int)==0)=true:=by simp[b]
  clear b;go_enter func234,ntmps234;go_wp2;go_ret;exact⟨au (by rw[a.o]),H,by rw[a.o];exact h,aw.refl _ _ _⟩
 ·have a:Xq (cr w=(0,{ w with Zbi:=true })):=by show cr w=_;simp only[cr,b];simp
  have c:((w.Zbe.length:Int)==0)=false:=X6.2 (by omega);have g:=h.Zbi l j true;clear b;go_enter func234,ntmps234;go_wp2;go_ret;exact⟨au (by rw[a.o]),H,by rw[a.o];exact g.o.1,g.o.2⟩
theorem Cu(h:a9 i f n S x w H)(d:S.length=l)(k:hZ w 100000000)(g:b.size<=1073741824) :
  Calls prog 249 #[pointer (some ⟨f,l,none⟩),string b] i fun e K=>e=returned (int i64 (bS w b).1)/\∃t,a9 K f n S x (bS w b).2 t/\aw f i H K t:=by
 obtain⟨z,A,B,C,D,E,F,G,I,J,m,o,p⟩:=h.cells l d;have j:=h.free;cases q:dO b
 ·cases s:ja b
  ·have a:Xq (bS w b=(12,w)):=(by show bS w b=_;simp[bS,q,s]);go_enter func249,ntmps249;go_wp2_with (first | (go_at_call 230;refine(fw b _ g).mono ?_;rintro e c ⟨rfl,rfl⟩) | (go_at_call 262;refine(pP b _ g).mono ?_;rintro e c ⟨rfl,rfl⟩) | (go_at_call 253;refine(nN f n l S x w H b _ (by exact h) d (k.mono (by omega))).mono ?_;rintro e c ⟨rfl,rfl⟩));go_ret;exact⟨au (by rw[a.o]),H,by rw[a.o];exact h,aw.refl _ _ _⟩
  ·cases y:eB w b
   ·have a:Xq (bS w b=(0,{ w with Zbm:=w.Zbm++[b],Zbz:=b,Zby:=6 })):=(by show bS w b=_;simp[bS,q,s,y]);have O:=k.Zbm;go_enter func249,ntmps249;go_wp2_with (first | (go_at_call 230;refine(fw b _ g).mono ?_;rintro e c ⟨rfl,rfl⟩) | (go_at_call 262;refine(pP b _ g).mono ?_;rintro e c ⟨rfl,rfl⟩) | (go_at_call 253;refine(nN f n l S x w H b _ (by exact h) d (k.mono (by omega))).mono ?_;rintro e c ⟨rfl,rfl⟩));refine(DU f n l S x w H b _ (by exact h) d (by omega)).mono ?_;rintro e P ⟨rfl,L,r,M⟩;have v:=r.lab l d b;have u:=v.o.1.Zby l d 6;clear z A B C D E F G I J m o p j;obtain⟨z,A,B,C,D,E,F,G,I,J,m,o,p⟩:=r.cells l d;have j:=r.free;go_wp2;go_ret;exact⟨au (by rw[a.o]),L,by rw[a.o];exact u.o.1,M.trans (v.o.2.trans u.o.2)⟩
   ·have a:Xq (bS w b=(13,w)):=(by show bS w b=_;simp[bS,q,s,y]);go_enter func249,ntmps249;go_wp2_with (first | (go_at_call 230;refine(fw b _ g).mono ?_;rintro e c ⟨rfl,rfl⟩) | (go_at_call 262;refine(pP b _ g).mono ?_;rintro e c ⟨rfl,rfl⟩) | (go_at_call 253;refine(nN f n l S x w H b _ (by exact h) d (k.mono (by omega))).mono ?_;rintro e c ⟨rfl,rfl⟩));go_ret;exact⟨au (by rw[a.o]),H,by rw[a.o];exact h,aw.refl _ _ _⟩
 ·have a:Xq (bS w b=(8,w)):=by show bS w b=_;simp[bS,q]
  go_enter func249,ntmps249;go_wp2_with (first | (go_at_call 230;refine(fw b _ g).mono ?_;rintro e c ⟨rfl,rfl⟩) | (go_at_call 262;refine(pP b _ g).mono ?_;rintro e c ⟨rfl,rfl⟩) | (go_at_call 253;refine(nN f n l S x w H b _ (by exact h) d (k.mono (by omega))).mono ?_;rintro e c ⟨rfl,rfl⟩));go_ret;exact⟨au (by rw[a.o]),H,by rw[a.o];exact h,aw.refl _ _ _⟩
theorem Ol:1<=oe w:=by unfold oe;split <;> omega
theorem U6(h:a9 i f n S x w H)(a:S.length=l)(hs:hZ w 10000000) :
  Calls prog 233 #[pointer (some ⟨f,l,none⟩),agg #[string b,int i64 d,int i64 k]] i fun e U=>e=returned (int i64 (l9 w ⟨b,d,k⟩).1)/\∃L,a9 U f n S x (l9 w ⟨b,d,k⟩).2 L/\aw f i H U L:=by
 obtain⟨W,s⟩:∃W,W=i.alloc (.cells #[string b,int i64 d,int i64 k] 36):=⟨_,rfl⟩
 have K:=dx s.symm;have D:=h.Zbj K;have v:Xq _:=s.symm;have B:=dC s.symm;obtain⟨p0,p1,p2⟩:=zT B;clear s B h;obtain⟨z,A,C,E,F,G,I,J,R,T,q,c,r⟩:=D.cells l a;clear z A C E F G I J T r;have m:=D.free;by_cases j:(w.Zbe.length:Int)<oe w
 ·have g:Xq (l9 w ⟨b,d,k⟩=(15,w)):=by show l9 w ⟨b,d,k⟩=_;simp only[l9,if_pos j]
  go_enter func233,ntmps233;go_upto_region 1 with fail
  rw[v.o];go_quiet ((go_at_call 250;exact XW (xI f n l S x w H _ (D.Zbj ((aa.refl [] W).drewN _)) a)));go_wp2;go_ret;exact⟨au (by rw[g.o]),H,by rw[g.o];exact D.Zbj (bH.drewN _),(aw.refl _ _ _).Zbj (K.drewN _)⟩
 ·have y:Xq (0<w.Zbe.length):=by have:=Ol w;show 0<_;omega
  by_cases p:(w.Zby==5)=true/\w.Zbi=false
  ·have g:Xq (l9 w ⟨b,d,k⟩=(23,w)):=(by show l9 w ⟨b,d,k⟩=_;simp only[l9,if_neg j,if_pos p]);obtain⟨t,Y⟩:=p;rw[Y]at c;go_enter func233,ntmps233;(go_upto_region 1 with fail);rw[v.o];go_quiet ((go_at_call 250;exact XW (xI f n l S x w H _ (D.Zbj ((aa.refl [] W).drewN _)) a)));go_wp2;go_ret;exact⟨au (by rw[g.o]),H,by rw[g.o];exact D.Zbj (bH.drewN _),(aw.refl _ _ _).Zbj (K.drewN _)⟩
  ·have g:Xq (l9 w ⟨b,d,k⟩=(0,{ aW w ⟨b,d,k⟩ with Zby:=0,Zbz:=⟨#[]⟩,Zbe:=[],Zbi:=false,Zbp:=[] })):=(by show l9 w ⟨b,d,k⟩=_;simp only[l9,if_neg j,if_neg p]);have o:(w.Zby==5)=true->w.Zbi=true:=by
    intro t;cases Z:w.Zbi with
    | true=>rfl
    | false=>exact absurd ⟨t,Z⟩ p
   cases t:(w.Zby==5)
   all_goals
    try rw[o t]at c
    clear o;clear p;go_enter func233,ntmps233;(go_upto_region 1 with fail);rw[v.o];go_quiet ((go_at_call 250;exact XW (xI f n l S x w H _ (D.Zbj ((aa.refl [] W).drewN _)) a)));go_wp2_with fail;refine(Gh f n l S x w H b d k _ (by exact D.Zbj (bH.drewN _)) a y.o hs).mono ?_;rintro e w2 ⟨rfl,H2,u,V⟩;have M:=u.Zby l a 0;have N:=M.o.1.lab l a ⟨#[]⟩;have O:Xq _:=N.o.1.forget l a;have P:=O.o.1.Zbi l a false;have Q:Xq _:=P.o.1.noProof l a;clear R q c m p0 p1 p2;obtain⟨z,A,C,E,F,G,I,J,R,T,q,c,r⟩:=u.cells l a;clear z A C E F G I J;have m:=u.free;go_wp2;go_ret;exact⟨au (by rw[g.o]),_,by rw[g.o];exact Q.o.1,(V.first (K.drewN _)).trans (M.o.2.trans (N.o.2.trans (O.o.2.trans (P.o.2.trans Q.o.2))))⟩
theorem vm{α:Type}{l:List α}{p:α}(h:l.getLast?=some p):l=l.dropLast++[p]:=by
 obtain⟨a,rfl⟩:=List.getLast?_eq_some_iff.1 h;simp
structure FE(d:Db)(N:Nat):Prop where
 ZbB:∀p,p∈d.ZbA->p.1<=N/\p.2<=N
 same:d.rbl.length=d.ZbA.length
 recs:∀x,x∈d.rbl->x<=d.Zbv.length
theorem Ct(h:a9 i f n S x w H)(s:S.length=l)(G:hZ w 10000000)(hx:b.size<=1073741824)(L:FE w 100000000) :
  Calls prog 231 #[pointer (some ⟨f,l,none⟩),string b] i fun e U=>e=returned (int i64 (aC w b).1)/\∃R,a9 U f n S x (aC w b).2 R/\aw f i H U R:=by
 have k:=G.mono (M:=100000000) (by omega);obtain⟨q0,q1,q2,q3,q4,q5,q6,q7,q8,q9,ad,af,ag⟩:=h.cells l s;have ac:=h.free;cases a:(b.toList == [36,123])
 ·cases d:(b.toList == [36,125])
  ·cases o:(b.toList == [36,99])
   ·cases j:(b.toList == [36,118])
    ·cases m:(b.toList == [36,100])
     ·cases q:(b.toList == [36,102])
      ·cases r:(b.toList == [36,101])
       ·cases v:(b.toList == [36,97])
        ·cases u:(b.toList == [36,112])
         ·have c:Xq (aC w b=bS w b):=(by show aC w b=_;simp only[aC,a,d,o,j,m,q,r,v,u];simp);go_enter func231,ntmps231;go_wp2_with fail;refine(Cu f n l S x w H b _ (by exact h) s k hx).mono ?_;rintro e V ⟨rfl,J,B,C⟩;go_wp2;go_ret;exact⟨au (by rw[c.o]),J,by rw[c.o];exact B,C⟩
         ·have c:Xq (aC w b=(11,w)):=(by show aC w b=_;simp only[aC,a,d,o,j,m,q,r,v,u];simp);go_enter func231,ntmps231;go_wp2;go_ret;exact⟨au (by rw[c.o]),H,by rw[c.o];exact h,aw.refl _ _ _⟩
        ·have c:Xq (aC w b=(11,w)):=(by show aC w b=_;simp only[aC,a,d,o,j,m,q,r,v];simp);go_enter func231,ntmps231;go_wp2;go_ret;exact⟨au (by rw[c.o]),H,by rw[c.o];exact h,aw.refl _ _ _⟩
       ·have c:Xq (aC w b=(11,w)):=(by show aC w b=_;simp only[aC,a,d,o,j,m,q,r];simp);go_enter func231,ntmps231;go_wp2;go_ret;exact⟨au (by rw[c.o]),H,by rw[c.o];exact h,aw.refl _ _ _⟩
      ·have c:Xq (aC w b=(11,w)):=(by show aC w b=_;simp only[aC,a,d,o,j,m,q];simp);go_enter func231,ntmps231;go_wp2;go_ret;exact⟨au (by rw[c.o]),H,by rw[c.o];exact h,aw.refl _ _ _⟩
     ·have c:Xq (aC w b=(0,{ w with Zby:=1 })):=(by show aC w b=_;simp only[aC,a,d,o,j,m];simp);have t:=h.Zby l s 1;go_enter func231,ntmps231;go_wp2;go_ret;exact⟨au (by rw[c.o]),H,by rw[c.o];exact t.o.1,t.o.2⟩
    ·have c:Xq (aC w b=(0,{ w with Zby:=8 })):=(by show aC w b=_;simp only[aC,a,d,o,j];simp);have t:=h.Zby l s 8;go_enter func231,ntmps231;go_wp2;go_ret;exact⟨au (by rw[c.o]),H,by rw[c.o];exact t.o.1,t.o.2⟩
   ·by_cases g:0<w.ZbA.length
    ·have c:Xq (aC w b=(10,w)):=(by show aC w b=_;simp only[aC,a,d,o,g];simp);have z:decide (0<w.ZbA.length)=true:=(by simpa using g);clear g;go_enter func231,ntmps231;go_wp2_with (go_at_call 206;refine(nM f n l S x w H _ (by exact h) s).mono ?_;rintro e Q ⟨rfl,rfl⟩);go_ret;exact⟨au (by rw[c.o]),H,by rw[c.o];exact h,aw.refl _ _ _⟩
    ·have c:Xq (aC w b=(0,{ w with Zby:=7 })):=(by show aC w b=_;simp only[aC,a,d,o,g];simp);have z:decide (0<w.ZbA.length)=false:=(by simpa using g);have t:=h.Zby l s 7;clear g;go_enter func231,ntmps231;go_wp2_with (go_at_call 206;refine(nM f n l S x w H _ (by exact h) s).mono ?_;rintro e Q ⟨rfl,rfl⟩);go_ret;exact⟨au (by rw[c.o]),H,by rw[c.o];exact t.o.1,t.o.2⟩
  ·rcases hbb:w.ZbA.getLast? with _ | p
   ·have g:w.ZbA=[]:=(by simpa using hbb);have c:Xq (aC w b=(9,w)):=(by show aC w b=_;simp only[aC,a,d,hbb];simp);have z:decide (0<w.ZbA.length)=false:=(by rw[g];rfl);clear hbb g;go_enter func231,ntmps231;go_wp2_with (go_at_call 206;refine(nM f n l S x w H _ (by exact h) s).mono ?_;rintro e Q ⟨rfl,rfl⟩);go_ret;exact⟨au (by rw[c.o]),H,by rw[c.o];exact h,aw.refl _ _ _⟩
   ·have g:w.ZbA=w.ZbA.dropLast++[p]:=vm hbb;have c:Xq (aC w b=(0,cZ w p)):=(by show aC w b=_;simp only[aC,a,d,hbb];simp);have z:decide (0<w.ZbA.length)=true:=(by rw[g];simp);have X:Xq (w.ZbA=w.ZbA.dropLast++[p]):=g;have hp:=L.ZbB p (by rw[g];simp);have F:w.rbl≠[]:=(by intro e;have:=L.same;rw[e,g]at this;simp at this);obtain⟨y,N⟩:∃y,w.rbl.getLast?=some y:=⟨_,Zw F⟩
    have T:Xq (w.rbl=w.rbl.dropLast++[y]):=vm N;have O:=L.recs y (by rw[T.o];simp);have Y:Xq (cZ w p={ dI w w.ZbA.dropLast p with rbl:=w.rbl.dropLast,Zbv:=ig w.Zbv y }):=(by show cZ w p=_;unfold cZ;rw[N]);have A:Xq (hZ (dI w w.ZbA.dropLast p) 100000000):=⟨k.Zbm,k.Zbg,k.Zbh,by have:=k.Zbn;simp only[dI,List.length_take];omega,by have:=k.Zbq;simp only[dI,List.length_take];omega,by have:=k.ZbA;simp only[dI,List.length_dropLast];omega,k.Zbv,k.rbl,k.Zbe,k.Zbp⟩;clear hbb g F N;go_enter func231,ntmps231;go_wp2_with (go_at_call 206;refine(nM f n l S x w H _ (by exact h) s).mono ?_;rintro e Q ⟨rfl,rfl⟩);refine(Ek f n l S x w H w.ZbA.dropLast p _ (by exact h) s X.o (k.mono (by omega)) ⟨by omega,by omega⟩).mono ?_;rintro e V ⟨rfl,B,C⟩;go_wp2_with fail;refine(KM f n l S x (dI w w.ZbA.dropLast p) H w.rbl.dropLast y _ (by exact B) s T.o A.o O).mono ?_;rintro e w3 ⟨rfl,I,K⟩;go_wp2;go_ret;exact⟨au (by rw[c.o]),H,by rw[c.o,Y.o];exact I,C.trans K⟩
 ·have c:Xq (aC w b=(0,{ w with ZbA:=w.ZbA++[(w.Zbn.length,w.Zbq.length)],rbl:=w.rbl++[w.Zbv.length] })):=by show aC w b=_;simp only[aC,a];simp
  have Z:=k.ZbA;have A:Xq (hZ { w with ZbA:=w.ZbA++[(w.Zbn.length,w.Zbq.length)] } 100000000):=⟨k.Zbm,k.Zbg,k.Zbh,k.Zbn,k.Zbq,by have:=G.ZbA;simp;omega,k.Zbv,k.rbl,k.Zbe,k.Zbp⟩;go_enter func231,ntmps231;go_wp2_with fail;refine(zO f n l S x w H _ (by exact h) s (by omega)).mono ?_;rintro e V ⟨rfl,J,B,C⟩;go_wp2_with fail;refine(Fa f n l S x { w with ZbA:=w.ZbA++[(w.Zbn.length,w.Zbq.length)] } J _ (by exact B) s A.o).mono ?_;rintro e w3 ⟨rfl,W,I,K⟩;go_wp2;go_ret;exact⟨au (by rw[c.o]),W,by rw[c.o];exact I,C.trans K⟩
theorem NU(h:(b.toList == [36,61])=true):dO b=true:=by
 have:b=⟨#[36,61]⟩:=tT (by rw[ByteArray.toList_mk [36,61]];simpa using h);rw[this];decide +kernel
theorem Po(l:List (Xr×Pl))(p:Xr×Pl):(⟨(jd l).e,(jd l).size,(jd l).n+1,(jd l).xs++uQ p⟩:eD)=jd (l++[p]):=by
 simp[jd,qn]
def jG(b t o:Nat)(pre post:List Value)(d:Db)(H:Nat->Hd)(x f:Xr)(l c:Int)(w:World):Prop :=
 Calls prog 205 #[pointer (some ⟨b,o,none⟩),string x,agg #[string f,int i64 l,int i64 c]] w fun e w'=>e=returned (int i64 (aY d x ⟨f,l,c⟩).1)/\∃H',a9 w' b t pre post (aY d x ⟨f,l,c⟩).2 H'/\aw b w H w' H'
theorem boxed(h:a9 o a g L m v D)(f:Xr)(l c:Int) :
  ∃W,Xq (o.alloc (.cells #[string f,int i64 l,int i64 c] 36)=W)/\aa [] o W/\a9 W a g L m v D/\W.cell? ⟨o.heap.size,0,none⟩=some (string f)/\W.cell? ⟨o.heap.size,1,none⟩=some (int i64 l)/\W.cell? ⟨o.heap.size,2,none⟩=some (int i64 c):=by
 have B:(o.alloc (.cells #[string f,int i64 l,int i64 c] 36)).heap[o.heap.size]?=some (.cells #[string f,int i64 l,int i64 c] 36):=XD _ _;refine⟨_,rfl,bH.alloc _,h.Zbj (bH.alloc _),?_,?_,?_⟩ <;> rw[ab B] <;> rfl
theorem IV(h:a9 i f n S x w H)(A:S.length=l)(s:hZ w 10000000)(hx:y.size<=1073741824)(Q:(w.Zby==0)=false)(k1:(w.Zby==6)=false)(p:(y.toList == [36,46])=false)(q:(y.toList == [36,61])=false)(X:dO y=false)(L:w.Zbi=false) :
  jG f n l S x w H y b d k i:=by
 unfold jG;have Y:=s.mono (M:=1073741824) (by omega);obtain⟨W,V,K,D,p0,p1,p2⟩:=boxed h b d k;clear h;obtain⟨q0,q1,q2,q3,q4,q5,q6,q7,q8,q9,R,v,T⟩:=D.cells l A;clear q0 q1 q2 q3 q4 q5 q6 q7 q9 T;have I:=D.free;rw[L]at v;cases F:(bh w y==0)
 ·have m:Xq (aY w y ⟨b,d,k⟩=(bh w y,w)):=by show aY w y ⟨b,d,k⟩=_;simp[aY,Q,k1,p,q,X,L,F]
  go_enter func205,ntmps205;go_upto_region 1 with fail
  rw[V.o];go_wp2_with (first | (go_at_call 230;refine(fw y _ hx).mono ?_;rintro e B ⟨rfl,rfl⟩) | (go_at_call 235;refine(rU f n l S x w H y _ (by exact D) A Y).mono ?_;rintro e B ⟨rfl,rfl⟩));go_ret;exact⟨au (by rw[m.o]),H,by rw[m.o];exact D,(aw.refl _ _ _).Zbj K⟩
 ·have m:Xq (aY w y ⟨b,d,k⟩=(0,{ w with Zbe:=w.Zbe++[y] })):=by show aY w y ⟨b,d,k⟩=_;simp[aY,Q,k1,p,q,X,L,F]
  have G:Xq (bh w y=0):=(show bh w y=0 by simpa using F);have ad:=s.Zbe;obtain⟨i0,J,N,O,P⟩:=XV i9;have E:=D.Zbj ((aa.refl [] W).alloc (.cells #[string y] 9));have c:=E.ZbH 8;have ac:=D.lt;go_enter func205,ntmps205;go_upto_region 1 with fail
  rw[V.o];go_wp2_with (first | (go_at_call 230;refine(fw y _ hx).mono ?_;rintro e B ⟨rfl,rfl⟩) | (go_at_call 235;refine(rU f n l S x w H y _ (by exact D) A Y).mono ?_;rintro e B ⟨rfl,rfl⟩) | (at_builtin;refine aR _ rfl (.tmp 74) (.tmp 76) 61 rfl i0 (string ⟨#[]⟩) 16 (H 8) (aE w.Zbe) underlying61 J N O P rfl XR rfl (by exact c) ⟨_,0,none⟩ 1 1 [string y] rfl rfl ?c1 ?c2 XR ?c3 ?c4 ?_))
  case c1=>intro j u z;match j,z with | 0,z=>simp at z;subst z;simp[Addr.add]
  case c2=>intro u Z;simp at Z;subst Z;rfl
  case c3=>simp only[aE];unfold maxLen;omega
  case c4=>simp only[aE];omega
  intro g o B t r a;obtain⟨Q,f0,U⟩:=E.app (d':={ w with Zbe:=w.Zbe++[y] }) l 10 A 8 (by omega) g o ((aE w.Zbe).n+1) _ t (dy w.Zbe y) r (by simpa using a) (wS w H _) (by omega) _ rfl (by simp[da,gj,aE]);clear E c q8 R v t r a I;go_wp2;go_ret;exact⟨au (by rw[m.o,G.o]),_,by rw[m.o];exact U.o.1,U.o.2.first (K.alloc _)⟩
theorem Cv(h:a9 i f n S x w H)(I:S.length=l)(t:hZ w 10000000)(U:y.size<=1073741824)(X:(w.Zby==0)=false)(Y:(w.Zby==6)=false)(q:(y.toList == [36,46])=false)(r:(y.toList == [36,61])=false)(O:dO y=false)(J:w.Zbi=true) :
  jG f n l S x w H y b d k i:=by
 unfold jG;obtain⟨W,M,K,D,p0,p1,p2⟩:=boxed h b d k;clear h;obtain⟨Z,q1,q2,q3,q4,q5,q6,q7,q8,q9,B,C,ac⟩:=D.cells l I;clear Z q1 q2 q3 q4 q5 q6 q7 q9 B;have P:=D.free;rw[J]at C;have F:Xq (aY w y ⟨b,d,k⟩=(0,{ w with Zbp:=w.Zbp++[(y,⟨b,d,k⟩)] })):=by show aY w y ⟨b,d,k⟩=_;simp[aY,X,Y,q,r,O,J]
 have T:=t.Zbp;obtain⟨V,s,v,z,A⟩:=XV Xd;have N:=D.lt;have G:Xq (a9 (W.alloc (.cells #[string y,string b,int i64 d,int i64 k] 229)).drew f n S x w H):=D.Zbj ((aa.refl [] W).alloc _).drew;have s2:Xq (∀j u,(uQ (y,⟨b,d,k⟩))[j]?=some u->(W.alloc (.cells #[string y,string b,int i64 d,int i64 k] 229)).drew.cell? ((⟨W.heap.size,0,none⟩:Addr).add j)=some u):=by
  intro j u Q;have R:(W.alloc (.cells #[string y,string b,int i64 d,int i64 k] 229)).drew.heap[W.heap.size]?=some (.cells #[string y,string b,int i64 d,int i64 k] 229):=XD _ _;rw[bE,ab R];simpa [uQ] using Q
 have s3:Xq (∀u∈uQ (y,⟨b,d,k⟩),u.oneCell'=true):=by
  intro u L;simp only[uQ,List.mem_cons,List.not_mem_nil,or_false]at L;rcases L with rfl | rfl | rfl | rfl <;> rfl
 have s4:Xq ((jd w.Zbp).n+1<=maxLen):=by show _<=_;simp only[jd];unfold maxLen;omega
 have s5:Xq (((jd w.Zbp).n+1)*48<=140737488355328):=by show _<=_;simp only[jd];omega
 go_enter func205,ntmps205;go_upto_region 1 with fail
 rw[M.o];go_wp2_with (go_at_call 230;refine(fw y _ U).mono ?_;rintro e w1 ⟨rfl,rfl⟩);go_region_law (refine bB rfl (.tmp 57) (.tmp 61) 156 rfl V (agg #[string ⟨#[]⟩,string ⟨#[]⟩,int i64 0,int i64 0]) 48 (H 9) (jd w.Zbp) underlying156 s v z A rfl (ZD 3) (by simp[Act.eval] <;> rfl) (G.o.ZbH 9) ⟨_,0,none⟩ 1 1 (uQ (y,⟨b,d,k⟩)) (by simp[Act.eval] <;> rfl) rfl s2.o s3.o XR s4.o s5.o ?_;intro g c w1 o m a;obtain⟨k5,f5,E⟩:=G.o.app (d':={ w with Zbp:=w.Zbp++[(y,⟨b,d,k⟩)] }) l 12 I 9 (by omega) g c ((jd w.Zbp).n+1) _ o (Po w.Zbp (y,⟨b,d,k⟩)) m (by simpa using a) (Bf w H _) (by omega) _ rfl (by simp[da,gj,jd]);clear o m a)
 all_goals go_wp2
 all_goals go_ret
 all_goals exact⟨au (by rw[F.o]),_,by rw[F.o];exact E.o.1,E.o.2.first (K.trans (bH.alloc _).drew)⟩
theorem Lv(h:a9 i f n S x w H)(u:S.length=l)(v:y.size<=1073741824)(p:(w.Zby==0)=false)(q:(w.Zby==6)=false)(c:(y.toList == [36,46])=false)(g:(y.toList == [36,61])=true) :
  jG f n l S x w H y b d k i:=by
 unfold jG;obtain⟨W,o,K,D,R,T,U⟩:=boxed h b d k;clear h;obtain⟨F,G,I,J,L,M,N,O,V,P,r,j,s⟩:=D.cells l u;clear F G I J L M N O P r s;have E:=D.free;have t:=NU y g;cases z:(w.Zby==5)
 ·have a:Xq (aY w y ⟨b,d,k⟩=(8,w)):=by show aY w y ⟨b,d,k⟩=_;simp[aY,p,q,c,z,t]
  go_enter func205,ntmps205;go_upto_region 1 with fail
  rw[o.o];go_wp2_with (go_at_call 230;refine(fw y _ v).mono ?_;rintro e Q ⟨rfl,rfl⟩);go_ret;exact⟨au (by rw[a.o]),H,by rw[a.o];exact D,(aw.refl _ _ _).Zbj K⟩
 ·cases m:w.Zbi
  ·have a:Xq (aY w y ⟨b,d,k⟩=cr w):=(by show aY w y ⟨b,d,k⟩=_;simp only[aY,p,q,c,g,z,m];simp);rw[m]at j;go_enter func205,ntmps205;(go_upto_region 1 with fail);rw[o.o];go_wp2_with fail;refine(zP f n l S x w H _ (by exact D) u).mono ?_;rintro e X ⟨rfl,B,A,C⟩;go_wp2;go_ret;exact⟨au (by rw[a.o]),B,by rw[a.o];exact A,C.first K⟩
  ·have a:Xq (aY w y ⟨b,d,k⟩=(8,w)):=(by show aY w y ⟨b,d,k⟩=_;simp[aY,p,q,c,m,t]);rw[m]at j;go_enter func205,ntmps205;(go_upto_region 1 with fail);rw[o.o];go_wp2_with (go_at_call 230;refine(fw y _ v).mono ?_;rintro e Q ⟨rfl,rfl⟩);go_ret;exact⟨au (by rw[a.o]),H,by rw[a.o];exact D,(aw.refl _ _ _).Zbj K⟩
theorem TU(h:a9 i f n S x w H)(o:S.length=l)(N:hZ w 10000000)(L:y.size<=1073741824)(M:FE w 100000000) :
  jG f n l S x w H y b d k i:=by
 cases r:(w.Zby==0)
 ·cases F:(w.Zby==6)
  ·cases m:(y.toList == [36,46])
   ·cases p:(y.toList == [36,61])
    ·cases O:dO y
     ·cases U:w.Zbi
      ·exact IV f n l S x w H y b d k i h o N L r F m p O U
      ·exact Cv f n l S x w H y b d k i h o N L r F m p O U
     ·unfold jG;obtain⟨W,q,K,D,P,Q,R⟩:=boxed h b d k;clear h M;obtain⟨s,t,u,v,z,A,B,C,T,E,a,g,c⟩:=D.cells l o;clear s t u v z A B C E a c;have j:Xq (aY w y ⟨b,d,k⟩=(8,w)):=(by show aY w y ⟨b,d,k⟩=_;simp[aY,r,F,m,p,O]);go_enter func205,ntmps205;(go_upto_region 1 with fail);rw[q.o];go_wp2_with (go_at_call 230;refine(fw y _ L).mono ?_;rintro e X ⟨rfl,rfl⟩);go_ret;exact⟨au (by rw[j.o]),H,by rw[j.o];exact D,(aw.refl _ _ _).Zbj K⟩
    ·exact Lv f n l S x w H y b d k i h o L r F m p
   ·unfold jG;obtain⟨W,q,K,D,P,Q,R⟩:=boxed h b d k;clear h M;obtain⟨s,t,u,v,z,A,B,C,T,E,a,g,c⟩:=D.cells l o;clear s t u v z A B C E a g c;have j:Xq (aY w y ⟨b,d,k⟩=l9 w ⟨b,d,k⟩):=(by show aY w y ⟨b,d,k⟩=_;simp only[aY,r,F,m];simp);go_enter func205,ntmps205;(go_upto_region 1 with fail);rw[q.o];go_wp2_with fail;refine(U6 f n l S x w H b d k _ (by exact D) o N).mono ?_;rintro e V ⟨rfl,I,G,J⟩;go_wp2;go_ret;exact⟨au (by rw[j.o]),I,by rw[j.o];exact G,J.first K⟩
  ·unfold jG;obtain⟨W,q,K,D,P,Q,R⟩:=boxed h b d k;clear h M;obtain⟨s,t,u,v,z,A,B,C,T,E,a,g,c⟩:=D.cells l o;clear s t u v z A B C E a g c;have j:Xq (aY w y ⟨b,d,k⟩=aJ w y):=(by show aY w y ⟨b,d,k⟩=_;simp only[aY,r,F];simp);go_enter func205,ntmps205;(go_upto_region 1 with fail);rw[q.o];go_wp2_with fail;refine(zg f n l S x w H y _ (by exact D) o).mono ?_;rintro e V ⟨rfl,I,G,J⟩;go_wp2;go_ret;exact⟨au (by rw[j.o]),I,by rw[j.o];exact G,J.first K⟩
 ·unfold jG;obtain⟨W,q,K,D,P,Q,R⟩:=boxed h b d k;clear h;obtain⟨s,t,u,v,z,A,B,C,T,E,a,g,c⟩:=D.cells l o;clear s t u v z A B C E a g c;have j:Xq (aY w y ⟨b,d,k⟩=aC w y):=by show aY w y ⟨b,d,k⟩=_;simp only[aY,r];simp
  go_enter func205,ntmps205;go_upto_region 1 with fail
  rw[q.o];go_wp2_with fail;refine(Ct f n l S x w H y _ (by exact D) o N L M).mono ?_;rintro e V ⟨rfl,I,G,J⟩;go_wp2;go_ret;exact⟨au (by rw[j.o]),I,by rw[j.o];exact G,J.first K⟩
def gF:Db:=⟨[],[],[],[],[],[],[],[],0,⟨#[]⟩,[],false,[]⟩
abbrev sB:=Int×Pl
def dJ:sB:=(0,⟨⟨#[]⟩,0,0⟩)
def jh(f:sB):Value:=agg #[int i64 f.1,string f.2.ZbD,int i64 f.2.ZbE,int i64 f.2.ZbF]
def mn(n s:Xr)(p:Nat):Pl:=⟨n,bb s p,bN s p⟩
def j8(n s:Xr)(i:vN):sB:=(if i.ZbC=true then 7 else i.ZbG,mn n s i.pos)
abbrev LV:=sB×List Bool×Db
def vj(fs:Fs)(x z:Nat)(p:Pl)(d:Db):sB ⊕ (Nat×Nat) :=
  if lU d=true then .inl (4,p)
  else if aQ (aF (ak fs x) z).1=false then .inl (j8 (aI fs x) (ak fs x) (aF (ak fs x) z).1)
  else if dO (aF (ak fs x) z).1.text=true then .inl (5,mn (aI fs x) (ak fs x) (aF (ak fs x) z).1.pos)
  else if bV fs (aF (ak fs x) z).1.text<0 then .inl (6,mn (aI fs x) (ak fs x) (aF (ak fs x) z).1.pos)
  else if aQ (aF (ak fs x) (aF (ak fs x) z).2).1=false then .inl (j8 (aI fs x) (ak fs x) (aF (ak fs x) (aF (ak fs x) z).2).1)
  else if((aF (ak fs x) (aF (ak fs x) z).2).1.text.toList == [36,93])=false then .inl (5,mn (aI fs x) (ak fs x) (aF (ak fs x) (aF (ak fs x) z).2).1.pos)
  else .inr ((bV fs (aF (ak fs x) z).1.text).toNat,(aF (ak fs x) (aF (ak fs x) z).2).2)
def pG(rf:Nat->List Bool->Db->LV)(fs:Fs)(x z:Nat)(p:Pl)(bg:List Bool)(d:Db):LV×Nat :=
  match vj fs x z p d with
  | .inl f=>((f,bg,d),z)
  | .inr (j,z')=>(rf j bg d,z')
def lA(rf:Nat->List Bool->Db->LV)(fs:Fs)(x z:Nat)(t:Xr)(p:Pl)(bg:List Bool)(d:Db):LV×Nat :=
  if(t.toList == [36,91])=true then pG rf fs x z p bg d
  else((if((aY d t p).1==0)=true then dJ else((aY d t p).1,p),bg,(aY d t p).2),z)
def bI(fs:Fs):Nat->Nat->Nat->List Bool->Db->LV
  | 0,_,_,bg,d=>(dJ,bg,d)
  | f+1,x,k,bg,d =>
    if aQ (aF (ak fs x) k).1=true then
      (if((lA (fun j bg d=>if bg.getD j true=true then(dJ,bg,d) else bI fs f j 0 (bg.set j true) d) fs x (aF (ak fs x) k).2 (aF (ak fs x) k).1.text (mn (aI fs x) (ak fs x) (aF (ak fs x) k).1.pos) bg d).1.1.1==0)=true
       then bI fs f x (lA (fun j bg d=>if bg.getD j true=true then(dJ,bg,d) else bI fs f j 0 (bg.set j true) d) fs x (aF (ak fs x) k).2 (aF (ak fs x) k).1.text (mn (aI fs x) (ak fs x) (aF (ak fs x) k).1.pos) bg d).2
          (lA (fun j bg d=>if bg.getD j true=true then(dJ,bg,d) else bI fs f j 0 (bg.set j true) d) fs x (aF (ak fs x) k).2 (aF (ak fs x) k).1.text (mn (aI fs x) (ak fs x) (aF (ak fs x) k).1.pos) bg d).1.2.1
          (lA (fun j bg d=>if bg.getD j true=true then(dJ,bg,d) else bI fs f j 0 (bg.set j true) d) fs x (aF (ak fs x) k).2 (aF (ak fs x) k).1.text (mn (aI fs x) (ak fs x) (aF (ak fs x) k).1.pos) bg d).1.2.2
       else(lA (fun j bg d=>if bg.getD j true=true then(dJ,bg,d) else bI fs f j 0 (bg.set j true) d) fs x (aF (ak fs x) k).2 (aF (ak fs x) k).1.text (mn (aI fs x) (ak fs x) (aF (ak fs x) k).1.pos) bg d).1)
    else if(aF (ak fs x) k).1.ZbC=true/\lU d=false then(dJ,bg,d) else(j8 (aI fs x) (ak fs x) (aF (ak fs x) k).1,bg,d)
def dn(fs:Fs)(f:Nat)(j:Nat)(bg:List Bool)(d:Db):LV :=
  if bg.getD j true=true then(dJ,bg,d) else bI fs f j 0 (bg.set j true) d
def iy(fs:Fs)(f x k:Nat)(bg:List Bool)(d:Db):LV×Nat :=
  lA (dn fs f) fs x (aF (ak fs x) k).2 (aF (ak fs x) k).1.text (mn (aI fs x) (ak fs x) (aF (ak fs x) k).1.pos) bg d
theorem CZ(a:aQ (aF (ak T n) l).1=true)(b:((iy T f n l I w).1.1.1==0)=true) :
    bI T (f+1) n l I w=bI T f n (iy T f n l I w).2 (iy T f n l I w).1.2.1 (iy T f n l I w).1.2.2:=by
  rw[bI,XA a];exact XA b
theorem rr(a:aQ (aF (ak T n) l).1=true)(b:((iy T f n l I w).1.1.1==0)=false) :
    bI T (f+1) n l I w=(iy T f n l I w).1:=by
  rw[bI,XA a];exact Xz (fun c=>Bool.noConfusion (b.symm.trans c))
theorem Es(a:aQ (aF (ak T n) l).1=false)(b:(aF (ak T n) l).1.ZbC=true)(c:lU w=false) :
    bI T (f+1) n l I w=(dJ,I,w):=by
  rw[bI,Xz (by simp[a]),XA ⟨b,c⟩]
theorem Ao(a:aQ (aF (ak T n) l).1=false)(b:¬((aF (ak T n) l).1.ZbC=true/\lU w=false)) :
    bI T (f+1) n l I w=(j8 (aI T n) (ak T n) (aF (ak T n) l).1,I,w):=by
  rw[bI,Xz (by simp[a]),Xz b]
theorem lS{i:vN}(h:aQ i=false)(a:i.ZbC=false):(i.ZbG==0)=false:=by
  simp[aQ,a]at h;simpa using h
structure qo(d:Db)(m:Nat):Prop where
  Zbm:d.Zbm.length<=m
  Zbg:d.Zbg.length+d.Zbe.length<=m
  Zbh:d.Zbh.length+d.Zbe.length<=m
  Zbn:d.Zbn.length+d.Zbe.length<=m
  Zbq:d.Zbq.length+d.Zbe.length<=m
  ZbA:d.ZbA.length<=m
  Zbv:d.Zbv.length<=m
  Zbp:d.Zbp.length<=m
  inner:∀p,p∈d.ZbA->p.1<=m/\p.2<=m
  same:d.rbl.length=d.ZbA.length
  recs:∀x,x∈d.rbl->x<=d.Zbv.length
theorem qo.small{N:Nat}(h:qo v a)(c:a<=N):hZ v N/\FE v N :=
  ⟨⟨by have:=h.Zbm;omega,by have:=h.Zbg;omega,by have:=h.Zbh;omega,by have:=h.Zbn;omega,by have:=h.Zbq;omega,by have:=h.ZbA;omega,by have:=h.Zbv;omega,by have:=h.ZbA;have:=h.same;omega,by have:=h.Zbg;omega,by have:=h.Zbp;omega⟩,
   ⟨fun p b=>by have:=h.inner p b;omega,h.same,h.recs⟩⟩
theorem qo.mono{m':Nat}(h:qo v a)(c:a<=m'):qo v m' :=
  ⟨by have:=h.Zbm;omega,by have:=h.Zbg;omega,by have:=h.Zbh;omega,by have:=h.Zbn;omega,by have:=h.Zbq;omega,by have:=h.ZbA;omega,by have:=h.Zbv;omega,by have:=h.Zbp;omega,fun p b=>by have:=h.inner p b;omega,h.same,h.recs⟩
theorem qo.empty:qo gF 0:=by
  refine⟨?_,?_,?_,?_,?_,?_,?_,?_,?_,?_,?_⟩ <;> simp[gF]
theorem qo.plain(h:qo v a)(k:Int)(l:Xr)(b:Bool):qo { v with Zby:=k,Zbz:=l,Zbi:=b } a:=⟨h.Zbm,h.Zbg,h.Zbh,h.Zbn,h.Zbq,h.ZbA,h.Zbv,h.Zbp,h.inner,h.same,h.recs⟩
theorem Ac:(ig s z0).length=s.length:=lP s z0 s.length
theorem qo.declare(h:qo v a)(p:Pl):qo { aW v p with Zby:=0,Zbz:=⟨#[]⟩,Zbe:=[],Zbi:=false,Zbp:=[] } (a+1):=by
  have e:=h.Zbg;have f:=h.Zbh;have g:=h.Zbn;have i:=h.Zbq;have b:=h.mono (ZU a);unfold aW;split
  · exact⟨b.Zbm,by simp;omega,by simp;omega,by simp;omega,by simp;omega,b.ZbA,b.Zbv,by simp,b.inner,b.same,b.recs⟩
  · split
    · have:=Ja v.Zbh (v.Zbe.take v.Zbe.length)
      simp only[List.take_length]at this;exact⟨b.Zbm,by simp[eK];omega,by simp[eK];omega,by simp[eK];omega,by simp[eK];omega,b.ZbA,b.Zbv,by simp,b.inner,b.same,b.recs⟩
    · unfold jg om
      have:=h.Zbv;split
      · next j=>exact⟨b.Zbm,by simp;omega,by simp;omega,by simp;omega,by simp;omega,b.ZbA,by simp;omega,by simp,b.inner,b.same,fun x c=>by have:=h.recs x c;simp;omega⟩
      · exact⟨b.Zbm,by simp;omega,by simp;omega,by simp;omega,by simp;omega,b.ZbA,by simp;omega,by simp,b.inner,b.same,fun x c=>by have:=h.recs x c;simp;omega⟩
theorem qo.take(h:qo v a)(x:Xr)(o:Pl):qo (aY v x o).2 (a+1):=by
  have b:=h.mono (ZU a);have c:=fun k=>b.plain k v.Zbz v.Zbi;have r:=h.Zbm;have s:=h.Zbg;have t:=h.Zbh;have u:=h.Zbn;have w:=h.Zbq;have z:=h.ZbA;have l:qo (bS v x).2 (a+1):=by
    unfold bS;split
    · exact b
    · split
      · exact b
      · split
        · exact b
        · exact⟨by simp;omega,b.Zbg,b.Zbh,b.Zbn,b.Zbq,b.ZbA,b.Zbv,b.Zbp,b.inner,b.same,b.recs⟩
  have j:qo (aJ v x).2 (a+1):=by
    unfold aJ;split
    · exact c 2
    · split
      · exact c 3
      · split
        · exact c 4
        · split
          · exact c 5
          · exact b
  have i:qo (aC v x).2 (a+1):=by
    unfold aC;split
    · refine⟨b.Zbm,b.Zbg,b.Zbh,b.Zbn,b.Zbq,by simp;omega,b.Zbv,b.Zbp,?_,by simp[h.same],?_⟩
      · intro p d
        simp only[List.mem_append,List.mem_singleton]at d;rcases d with d | rfl
        · exact b.inner p d
        · simp only;omega
      · intro y f
        simp only[List.mem_append,List.mem_singleton]at f;rcases f with f | rfl
        · exact h.recs y f
        · exact Xy _
    · split
      · split
        · exact b
        · next p d =>
          unfold cZ;have n:v.rbl≠[]:=by
            intro e;have:=h.same;rw[e,vm d]at this;simp at this
          obtain⟨y,f⟩:∃y,v.rbl.getLast?=some y:=⟨_,Zw n⟩
          rw[f];refine⟨b.Zbm,b.Zbg,b.Zbh,?_,?_,?_,?_,b.Zbp,?_,?_,?_⟩
          · simp only[dI,List.length_take];omega
          · simp only[dI,List.length_take];omega
          · simp only[dI,List.length_dropLast];omega
          · show(ig v.Zbv y).length<=_;rw[Ac];exact b.Zbv
          · intro q m
            simp only[dI]at m;exact b.inner q (Zae _ m)
          · simp only[dI,List.length_dropLast,h.same]
          · intro q m
            show q<=(ig v.Zbv y).length;rw[Ac];exact h.recs q (Zae _ m)
      · split
        · split
          · exact b
          · exact c 7
        · split
          · exact c 8
          · split
            · exact c 1
            · split
              · exact b
              · exact l
  have g:qo (l9 v o).2 (a+1):=by
    unfold l9;split
    · exact b
    · split
      · exact b
      · exact h.declare o
  unfold aY;split
  · exact i
  · split
    · exact j
    · split
      · exact g
      · split
        · unfold cr
          split
          · exact b
          · exact b.plain v.Zby v.Zbz true
        · split
          · exact b
          · split
            · exact⟨b.Zbm,b.Zbg,b.Zbh,b.Zbn,b.Zbq,b.ZbA,b.Zbv,by have:=h.Zbp;simp;omega,b.inner,b.same,b.recs⟩
            · split
              · exact⟨b.Zbm,by simp;omega,by simp;omega,by simp;omega,by simp;omega,b.ZbA,b.Zbv,b.Zbp,b.inner,b.same,b.recs⟩
              · exact b
def UC(fs:Fs)(bg:List Bool)(j:Nat):Nat:=if bg.getD j true=true then 0 else(ak fs j).size+2
def fg(fs:Fs)(bg:List Bool):Nat:=UC fs bg 0+UC fs bg 1+UC fs bg 2+UC fs bg 3
theorem AD(f:I.length=4)(e:I.getD z0 true=false):fg T (I.set z0 true)+(ak T z0).size+2=fg T I:=by
  match I,f with
  | [a,b,c,d],_ =>
    match z0 with
    | 0=>simp at e;subst e;simp[fg,UC];omega
    | 1=>simp at e;subst e;simp[fg,UC];omega
    | 2=>simp at e;subst e;simp[fg,UC];omega
    | 3=>simp at e;subst e;simp[fg,UC];omega
    | z0+4=>simp at e
def Kin(fs:Fs)(bg:List Bool)(m:Nat)(r:LV):Prop :=
  r.2.1.length=4/\fg fs r.2.1<=fg fs bg/\∃m',qo r.2.2 m'/\m'+fg fs r.2.1<=m+fg fs bg
theorem IQ(n:∀j a d m,a.length=4->qo d m->Kin T a m (dn T z0 j a d))(x k:Nat)(a:List Bool)(d:Db)(m:Nat)(p:k<=(ak T x).size)(l:a.length=4)(g:qo d m)(q:aQ (aF (ak T x) k).1=true) :
    Kin T a (m+1) (iy T z0 x k a d).1/\k<(iy T z0 x k a d).2/\(iy T z0 x k a d).2<=(ak T x).size:=by
  have e:=gU (ak T x) k p;have c:=e.2.2 q;unfold iy lA;split
  · unfold pG
    split
    · exact⟨⟨l,Xy _,m,g,by simp only;omega⟩,c,e.2.1⟩
    · next j w b =>
      have f:=n j a d m l g;refine⟨⟨f.1,f.2.1,?_⟩,?_⟩
      · obtain⟨s,t,v⟩:=f.2.2;exact⟨s,t,by simp only;omega⟩
      · unfold vj at b
        have r:=gU (ak T x) (aF (ak T x) k).2 e.2.1;have u:=gU (ak T x) (aF (ak T x) (aF (ak T x) k).2).2 r.2.1
        repeat' split at b
        all_goals first | (cases b;done) | skip
        injection b with b
        injection b with o i
        subst i;omega
  · exact⟨⟨l,Xy _,m+1,g.take _ _,by simp only;omega⟩,c,e.2.1⟩
theorem Ru(f:Nat):(∀x k a d m,k<=(ak T x).size->a.length=4->qo d m->(bI T f x k a d).2.1.length=4/\fg T (bI T f x k a d).2.1<=fg T a/\∃c,qo (bI T f x k a d).2.2 c/\c+fg T (bI T f x k a d).2.1<=m+((ak T x).size-k)+fg T a) /\
    (∀j a d m,a.length=4->qo d m->Kin T a m (dn T f j a d)):=by
  have b:∀f,(∀x k a d m,k<=(ak T x).size->a.length=4->qo d m->(bI T f x k a d).2.1.length=4/\fg T (bI T f x k a d).2.1<=fg T a/\∃c,qo (bI T f x k a d).2.2 c/\c+fg T (bI T f x k a d).2.1<=m+((ak T x).size-k)+fg T a) ->
      (∀j a d m,a.length=4->qo d m->Kin T a m (dn T f j a d)):=by
    intro f h j a d m e g;unfold dn;split
    · exact⟨e,Xy _,m,g,Xy _⟩
    · next v =>
      have n:a.getD j true=false:=(by simpa using v);have E:=AD T a j e n;have:=h j 0 (a.set j true) d m (XX _) (by simpa using e) g;refine⟨this.1,by omega,?_⟩;obtain⟨c,y,F⟩:=this.2.2;exact⟨c,y,by omega⟩
  induction f with
  | zero =>
    have o:∀x k a d m,k<=(ak T x).size->a.length=4->qo d m->(bI T 0 x k a d).2.1.length=4/\fg T (bI T 0 x k a d).2.1<=fg T a/\∃c,qo (bI T 0 x k a d).2.2 c/\c+fg T (bI T 0 x k a d).2.1<=m+((ak T x).size-k)+fg T a:=by
      intro x k a d m q e g;exact⟨e,Xy _,m,g,by simp only[bI];omega⟩
    exact⟨o,b 0 o⟩
  | succ f r =>
    have p:∀x k a d m,k<=(ak T x).size->a.length=4->qo d m->(bI T (f+1) x k a d).2.1.length=4/\fg T (bI T (f+1) x k a d).2.1<=fg T a/\∃c,qo (bI T (f+1) x k a d).2.2 c/\c+fg T (bI T (f+1) x k a d).2.1<=m+((ak T x).size-k)+fg T a:=by
      intro x k a d m q e g;cases l:aQ (aF (ak T x) k).1 with
      | true =>
        have D:=IQ T f r.2 x k a d m q e g l;obtain⟨⟨t,B,s,u,I⟩,J,C⟩:=D;cases i:((iy T f x k a d).1.1.1==0) with
        | true =>
          rw[CZ T f x k a d l i];obtain⟨z,G,w,A,H⟩:=r.1 x (iy T f x k a d).2 (iy T f x k a d).1.2.1 (iy T f x k a d).1.2.2 s C t u;exact⟨z,by omega,w,A,by omega⟩
        | false =>
          rw[rr T f x k a d l i];exact⟨t,B,s,u,by omega⟩
      | false =>
        by_cases i:(aF (ak T x) k).1.ZbC=true/\lU d=false
        · rw[Es T f x k a d l i.1 i.2];exact⟨e,Xy _,m,g,by simp only;omega⟩
        · rw[Ao T f x k a d l i];exact⟨e,Xy _,m,g,by simp only;omega⟩
    exact⟨p,b (f+1) p⟩
theorem Ci(k:Nat)(a:b.size<=1024):(bt b k).1.text.size<=1024:=by
  unfold bt;generalize b.size-k+1=f
  induction f generalizing k with
  | zero=>simp[cN,ByteArray.size]
  | succ f c =>
    rw[cN];split
    · split
      · simp[ByteArray.size]
      · exact c _
    · split
      · simp[ByteArray.size]
      · exact uj b k a
theorem vp(k:Nat)(a:b.size<=1024):(aF b k).1.text.size<=1024:=by
  unfold aF;generalize b.size-k+1=f
  induction f generalizing k with
  | zero=>simp[eJ,ByteArray.size]
  | succ f c =>
    rw[eJ];split
    · split
      · exact c _
      · exact Ci b _ a
    · exact uj b k a
theorem Lw:(aY w b z1).2.Zbp=w.Zbp∨(aY w b z1).2.Zbp=[]∨(aY w b z1).2.Zbp=w.Zbp++[(b,z1)]:=by
 unfold aY;split
 ·left
  unfold aC;split
  ·rfl
  ·split
   ·split
    ·rfl
    ·unfold cZ;split <;> rfl
   ·split
    ·split <;> rfl
    ·split
     ·rfl
     ·split
      ·rfl
      ·split
       ·rfl
       ·unfold bS
        repeat' split
        all_goals rfl
 ·split
  ·left;unfold aJ
   repeat' split
   all_goals rfl
  ·split
   ·unfold l9;split
    ·left;rfl
    ·split
     ·left;rfl
     ·right;left;rfl
   ·split
    ·left;unfold cr;split <;> rfl
    ·split
     ·left;rfl
     ·split
      ·right;right;rfl
      ·split
       ·left;rfl
       ·left;rfl
theorem IX:(aY w b z1).2.Zbv=w.Zbv∨(∃y∈w.rbl,(aY w b z1).2.Zbv=ig w.Zbv y)∨((aY w b z1).2.Zbv=w.Zbv++[⟨w.Zby,w.Zbz,w.Zbe,w.Zbp,z1,0⟩]/\0<w.Zbe.length):=by
 unfold aY;split
 ·unfold aC;split
  ·left;rfl
  ·split
   ·split
    ·left;rfl
    ·unfold cZ;split
     ·left;rfl
     ·next y d=>right;left;exact⟨y,List.mem_of_getLast? d,rfl⟩
   ·split
    ·split <;> (left;rfl)
    ·split
     ·left;rfl
     ·split
      ·left;rfl
      ·split
       ·left;rfl
       ·left;unfold bS
        repeat' split
        all_goals rfl
 ·split
  ·left;unfold aJ
   repeat' split
   all_goals rfl
  ·split
   ·unfold l9;split
    ·left;rfl
    ·next c =>
     have a:0<w.Zbe.length:=by
      unfold oe at c;split at c <;> omega
     split
     ·left;rfl
     ·unfold aW;split
      ·left;rfl
      ·split
       ·left;rfl
       ·right;right
        refine⟨?_,a⟩;unfold jg;split <;> rfl
   ·split
    ·left;unfold cr;split <;> rfl
    ·split
     ·left;rfl
     ·split
      ·left;rfl
      ·split
       ·left;rfl
       ·left;rfl
theorem TZ:(aY w b z1).2.rbl=w.rbl∨(aY w b z1).2.rbl=w.rbl.dropLast∨(aY w b z1).2.rbl=w.rbl++[w.Zbv.length]:=by
 unfold aY;split
 ·unfold aC;split
  ·right;right;rfl
  ·split
   ·split
    ·left;rfl
    ·unfold cZ;split
     ·left;rfl
     ·right;left;rfl
   ·split
    ·split <;> (left;rfl)
    ·split
     ·left;rfl
     ·split
      ·left;rfl
      ·split
       ·left;rfl
       ·left;unfold bS
        repeat' split
        all_goals rfl
 ·left
  split
  ·unfold aJ
   repeat' split
   all_goals rfl
  ·split
   ·unfold l9;split
    ·rfl
    ·split
     ·rfl
     ·unfold aW;split
      ·rfl
      ·split
       ·rfl
       ·unfold jg;split <;> rfl
   ·split
    ·unfold cr;split <;> rfl
    ·split
     ·rfl
     ·split
      ·rfl
      ·split <;> rfl
structure Ext(S:List St)(d:Db):Prop where
 pre:∃m,d.Zbv=S++m
 rbl:∀y∈d.rbl,S.length<=y
theorem JT(m:List St)(y:Nat)(h:s.length<=y):∃b,ig (s++m) y=s++b:=by
 refine⟨(ig (s++m) y).drop s.length,?_⟩;have e:(ig (s++m) y).take s.length=s:=by
  apply YR;intro i;rw[ZH];split
  ·next a =>
   unfold ig ia;rw[List.getElem?_mapIdx,XP a,Xv a];rw[Zah,Xz (by omega)]
  ·rw[Yb];omega
 conv=>lhs;rw[<-Z5 s.length (ig (s++m) y),e]
theorem Ext.take{S:List St}(h:Ext S v)(x:Xr)(p:Pl):Ext S (aY v x p).2:=by
 obtain⟨m,b⟩:=h.pre;refine⟨?_,?_⟩
 ·rcases IX v x p with e | ⟨y,a,e⟩ | ⟨e,_⟩
  ·exact⟨m,by rw[e,b]⟩
  ·rw[e,b];exact JT S m y (h.rbl y a)
  ·exact⟨m++[_],by rw[e,b,Y2]⟩
 ·rcases TZ v x p with e | e | e
  ·rw[e];exact h.rbl
  ·rw[e];intro y a;exact h.rbl y (Zae _ a)
  ·rw[e];intro y a;rcases X9.1 a with a | a
   ·exact h.rbl y a
   ·rw[XH.1 a,b,XC];omega
theorem Ext.begin(h:qo v a)(b:lU v=false):Ext v.Zbv v:=by
 refine⟨⟨[],by simp⟩,fun y d=>?_⟩;have c:=h.same;have e:v.ZbA.length=0:=by
  unfold lU at b;simp only[Bool.or_eq_false_iff,decide_eq_false_iff_not]at b;omega
 rw[e]at c;rw[XY c]at d;cases d
structure Rw where
 Zbz:Xr
 Zbk:Int
 why:Int
 at_:Pl
def pm(r:Rw):List Value:=[string r.Zbz,int i64 r.Zbk,int i64 r.why,string r.at_.ZbD,int i64 r.at_.ZbE,int i64 r.at_.ZbF]
def mF(l:List Rw):List Value:=l.flatMap pm
def mD:Pl:=⟨⟨#[]⟩,0,0⟩
def tO:Rw:=⟨⟨#[]⟩,0,0,mD⟩
theorem zb1:(prog.info? 38).map (fun i=>(i.zero,i.size,i.bytes))=some (some (agg #[string ⟨#[]⟩,int i64 0,int i64 0,string ⟨#[]⟩,int i64 0,int i64 0]),6,64):=by kernel_rfl
theorem IG(l:List Rw):(mF l).length=l.length*6:=by
 induction l with
 | nil=>rfl
 | cons x r a =>
  have e:mF (x :: r)=pm x++mF r:=rfl;rw[e,XC,a];simp[pm];omega
theorem M3(l:List Rw)(k:Nat)(a:k<l.length)(j:Nat)(d:j<6):(mF l)[k*6+j]?=(pm l[k])[j]?:=by
 induction l generalizing k with
 | nil=>simp at a
 | cons s r c =>
  have e:mF (s :: r)=pm s++mF r:=rfl;rw[e];cases k with
  | zero=>rw[XP (by simp[pm];omega)];simp
  | succ k =>
   rw[XO (by simp[pm];omega)];have b:(k+1)*6+j-(pm s).length=k*6+j:=by simp[pm];omega
   rw[b,c k (by simpa using a)];rfl
def Qw(p:Pl):Prop:=-1000000000<=p.ZbE/\p.ZbE<=1000000000
structure zcH(L:List Rw):Prop where
 len:L.length<=100000
 ZbE:∀r∈L,Qw r.at_
end Go.Proofs.YtpdholcaobgofaaGreat

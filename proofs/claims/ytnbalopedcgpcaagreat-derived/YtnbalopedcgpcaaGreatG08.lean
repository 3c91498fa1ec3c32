import Derived.Test.YtnbalopedcgpcaaGreatG07
namespace Go.Proofs.YtnbalopedcgpcaaGreat
open Go.RowKit Tryz
open Value renaming int->Xx,string->Xy,slice->Xz,pointer->XA,agg->XB,bool->XC
open Obj renaming cells->XE
open IntKind renaming i64->XF
open Ending renaming returned->XH
open World renaming cell?->XI
open Option renaming none->XJ,some->XK
open Bool renaming true->XL,false->XM
open Go.RowKit renaming Hid->XN
open Go renaming Calls->XO,World->XP,Value->XQ
set_option maxHeartbeats 0
variable{I:Db}{o g:Nat}{D:XP}{N m:List XQ}{L:Nat->Hd}{z1:oq}(k:Fs)(f n l:Nat)(S x:List XQ)(z0:List Bool)(w:Db)(H:Nat->Hd)(T b:ByteArray)(v d:Int)(a:XP)(y:Nat)(i:Db)
def fH(d:Db)(x:ByteArray):Int:=if aM d.Uv x=XM then 18 else if aM d.Um x=XL then 19 else 0
def dD(d:Db)(x:ByteArray):Int:=if aM d.Uo x=XM then 17 else 0
def cZ(d:Db)(x:ByteArray):Int:=if 1<d.Um.length then 16 else if aM d.Uv x=XM then 18 else if aM d.Uy x=XL then 20 else 0
def cN(d:Db)(x:ByteArray):Int:=if aM d.Uo x=XL then 0 else if aM d.Uv x=XM then 21 else if aM d.Uy x=XM then 22 else 0
def aC(d:Db)(x:ByteArray):Int :=
 if(d.kind==7)=XL then(if aM d.Um x=XL∨cm d x=XL then 13 else 0)
 else if(d.kind==8)=XL then(if aM d.Um x=XL∨di d x=XL then 13 else 0)
 else if(d.kind==1)=XL then fH d x
 else if d.Um.length=0 then dD d x
 else if(d.kind==2)=XL then cZ d x
 else cN d x
theorem oF(h:aO a f n S x w H)(d:S.length=l)(c:eu w 1073741824) :
  XO prog 191 #[XA (XK ⟨f,l,XJ⟩),Xy b] a fun e p=>e=XH (Xx XF (fH w b))/\p=a:=by
 obtain⟨r,s,t,u,v,y,z,A,B,C,k,m,o⟩:=h.cells l d;have j:=c.Um;cases g:aM w.Uv b <;> cases i:aM w.Um b
 all_goals
  go_enter func191,ntmps191;go_wp2_with (first | (go_at_call 206;refine(ib f n l S x w H b _ (by exact h) d c.Uv).mono ?_;rintro e q ⟨rfl,rfl⟩) | (go_at_call 188;refine(dL (H 8) w.Um b _ (by exact h.own 8) c.Um).mono ?_;rintro e q ⟨rfl,rfl⟩));go_ret;exact⟨ay (by simp[fH,g,i]),rfl⟩
theorem oI(h:aO a f n S x w H)(c:S.length=l)(d:eu w 1073741824) :
  XO prog 192 #[XA (XK ⟨f,l,XJ⟩),Xy b] a fun e o=>e=XH (Xx XF (dD w b))/\o=a:=by
 obtain⟨p,q,r,s,t,u,v,y,z,A,j,k,m⟩:=h.cells l c;have i:=d.Um;cases g:aM w.Uo b
 all_goals
  go_enter func192,ntmps192;go_wp2_with (first | (go_at_call 207;refine(jm f n l S x w H b _ (by exact h) c d.Uo).mono ?_;rintro e B ⟨rfl,rfl⟩));go_ret;exact⟨ay (by simp[dD,g]),rfl⟩
theorem oG(h:aO a f n S x w H)(c:S.length=l)(d:eu w 1073741824) :
  XO prog 193 #[XA (XK ⟨f,l,XJ⟩),Xy b] a fun e r=>e=XH (Xx XF (cZ w b))/\r=a:=by
 obtain⟨s,t,u,v,y,z,A,B,C,D,o,p,q⟩:=h.cells l c;have m:=d.Um;by_cases i:1<w.Um.length
 ·go_enter func193,ntmps193;go_wp2_with (first | (go_at_call 206;refine(ib f n l S x w H b _ (by exact h) c d.Uv).mono ?_;rintro e g ⟨rfl,rfl⟩) | (go_at_call 208;refine(jC f n l S x w H b _ (by exact h) c d.Uy).mono ?_;rintro e g ⟨rfl,rfl⟩));go_ret;exact⟨ay (by simp[cZ,i]),rfl⟩
 ·cases j:aM w.Uv b <;> cases k:aM w.Uy b
  all_goals
   go_enter func193,ntmps193;go_wp2_with (first | (go_at_call 206;refine(ib f n l S x w H b _ (by exact h) c d.Uv).mono ?_;rintro e g ⟨rfl,rfl⟩) | (go_at_call 208;refine(jC f n l S x w H b _ (by exact h) c d.Uy).mono ?_;rintro e g ⟨rfl,rfl⟩));go_ret;exact⟨ay (by simp[cZ,i,j,k]),rfl⟩
theorem mQ(h:aO a f n S x w H)(c:S.length=l)(d:eu w 1073741824) :
  XO prog 194 #[XA (XK ⟨f,l,XJ⟩),Xy b] a fun e r=>e=XH (Xx XF (cN w b))/\r=a:=by
 obtain⟨s,t,u,v,y,z,A,B,C,D,o,p,q⟩:=h.cells l c;have m:=d.Um;cases i:aM w.Uo b
 ·cases j:aM w.Uv b <;> cases k:aM w.Uy b
  all_goals
   go_enter func194,ntmps194;go_wp2_with (first | (go_at_call 207;refine(jm f n l S x w H b _ (by exact h) c d.Uo).mono ?_;rintro e g ⟨rfl,rfl⟩) | (go_at_call 206;refine(ib f n l S x w H b _ (by exact h) c d.Uv).mono ?_;rintro e g ⟨rfl,rfl⟩) | (go_at_call 208;refine(jC f n l S x w H b _ (by exact h) c d.Uy).mono ?_;rintro e g ⟨rfl,rfl⟩));go_ret;exact⟨ay (by simp[cN,i,j,k]),rfl⟩
 ·go_enter func194,ntmps194;go_wp2_with (first | (go_at_call 207;refine(jm f n l S x w H b _ (by exact h) c d.Uo).mono ?_;rintro e g ⟨rfl,rfl⟩) | (go_at_call 206;refine(ib f n l S x w H b _ (by exact h) c d.Uv).mono ?_;rintro e g ⟨rfl,rfl⟩) | (go_at_call 208;refine(jC f n l S x w H b _ (by exact h) c d.Uy).mono ?_;rintro e g ⟨rfl,rfl⟩));go_ret;exact⟨ay (by simp[cN,i]),rfl⟩
theorem lh(h:aO a f n S x w H)(g:S.length=l)(c:eu w 1073741824) :
  XO prog 176 #[XA (XK ⟨f,l,XJ⟩),Xy b] a fun e z=>e=XH (Xx XF (aC w b))/\z=a:=by
 obtain⟨A,B,C,D,E,F,G,I,J,K,u,v,y⟩:=h.cells l g;have t:=c.Um;cases k:(w.kind==7)
 ·cases m:(w.kind==8)
  ·cases o:(w.kind==1)
   ·by_cases i:w.Um.length=0
    ·have d:XN (aC w b=dD w b):=(by show aC w b=_;simp only[aC,k,m,o,i];simp);have r:((w.Um.length:Int)==0)=XL:=(by simp[i]);clear i;go_enter func176,ntmps176;go_wp2_with (first | (go_at_call 192;refine(oI f n l S x w H b _ (by exact h) g c).mono ?_;rintro e j ⟨rfl,rfl⟩));go_ret;exact⟨ay (by rw[d.out]),rfl⟩
    ·have r:((w.Um.length:Int)==0)=XM:=Qi.2 (by omega);cases s:(w.kind==2)
     ·have d:XN (aC w b=cN w b):=(by show aC w b=_;simp[aC,k,m,o,s,i]);clear i;go_enter func176,ntmps176;go_wp2_with (first | (go_at_call 194;refine(mQ f n l S x w H b _ (by exact h) g c).mono ?_;rintro e j ⟨rfl,rfl⟩));go_ret;exact⟨ay (by rw[d.out]),rfl⟩
     ·have d:XN (aC w b=cZ w b):=(by show aC w b=_;simp[aC,k,m,o,s,i]);clear i;go_enter func176,ntmps176;go_wp2_with (first | (go_at_call 193;refine(oG f n l S x w H b _ (by exact h) g c).mono ?_;rintro e j ⟨rfl,rfl⟩));go_ret;exact⟨ay (by rw[d.out]),rfl⟩
   ·have d:XN (aC w b=fH w b):=(by show aC w b=_;simp[aC,k,m,o]);go_enter func176,ntmps176;go_wp2_with (first | (go_at_call 191;refine(oF f n l S x w H b _ (by exact h) g c).mono ?_;rintro e j ⟨rfl,rfl⟩));go_ret;exact⟨ay (by rw[d.out]),rfl⟩
  ·cases p:aM w.Um b <;> cases q:di w b
   all_goals
    go_enter func176,ntmps176;go_wp2_with (first | (go_at_call 188;refine(dL (H 8) w.Um b _ (by exact h.own 8) c.Um).mono ?_;rintro e j ⟨rfl,rfl⟩) | (go_at_call 190;refine(wO f n l S x w H b _ (by exact h) g c).mono ?_;rintro e j ⟨rfl,rfl⟩));go_ret;exact⟨ay (by simp[aC,k,m,p,q]),rfl⟩
 ·cases p:aM w.Um b <;> cases q:cm w b
  all_goals
   go_enter func176,ntmps176;go_wp2_with (first | (go_at_call 188;refine(dL (H 8) w.Um b _ (by exact h.own 8) c.Um).mono ?_;rintro e j ⟨rfl,rfl⟩) | (go_at_call 189;refine(iH f n l S x w H b _ (by exact h) g c).mono ?_;rintro e j ⟨rfl,rfl⟩));go_ret;exact⟨ay (by simp[aC,k,p,q]),rfl⟩
theorem eu.mono{M:Nat}(h:eu I o)(a:o<=M):eu I M :=
 ⟨Qk h.Uu a,Qk h.Uo a,Qk h.Up a,Qk h.Uv a,Qk h.Uy a,Qk h.blocks a,Qk h.UD a,Qk h.rbl a,Qk h.Um a,Qk h.Ux a⟩
theorem aO.kind(h:aO D o g N m I L)(b:Nat)(c:N.length=b)(k:Int) :
  XN (aO (D.setCell ⟨o,b+8,XJ⟩ (Xx XF k)) o g N m { I with kind:=k } L/\aj o D L (D.setCell ⟨o,b+8,XJ⟩ (Xx XF k)) L) :=
 h.set (d':={ I with kind:=k }) b 8 c (Gh I L k) _ (by omega) rfl
theorem aO.lab(h:aO D o g N m I L)(b:Nat)(c:N.length=b)(k:ByteArray) :
  XN (aO (D.setCell ⟨o,b+9,XJ⟩ (Xy k)) o g N m { I with label:=k } L/\aj o D L (D.setCell ⟨o,b+9,XJ⟩ (Xy k)) L) :=
 h.set (d':={ I with label:=k }) b 9 c (CF I L k) _ (by omega) rfl
theorem aO.Uq(h:aO D o g N m I L)(a:Nat)(c:N.length=a)(k:Bool) :
  XN (aO (D.setCell ⟨o,a+11,XJ⟩ (XC k)) o g N m { I with Uq:=k } L/\aj o D L (D.setCell ⟨o,a+11,XJ⟩ (XC k)) L) :=
 h.set (d':={ I with Uq:=k }) a 11 c (xt I L k) _ (by omega) rfl
theorem aO.forget(h:aO D o g N m I L)(a:Nat)(c:N.length=a) :
  aO (D.setCell ⟨o,a+10,XJ⟩ (Xz XJ 0 0)) o g N m { I with Um:=[] } (cX L 8 ⟨XJ,0⟩)/\aj o D L (D.setCell ⟨o,a+10,XJ⟩ (Xz XJ 0 0)) (cX L 8 ⟨XJ,0⟩) :=
 h.put (d':={ I with Um:=[] }) a 10 c 8 (by omega) ⟨XJ,0⟩ ⟨by simp[aT,au,strs],P0 ⟨by simp[aT,au],by simp[aT,au]⟩⟩ (Ts _ _) (P0 rfl) (pC I L []) _ (by omega) (by simp[bM,cX])
theorem aO.noProof(h:aO D o g N m I L)(a:Nat)(c:N.length=a) :
  aO (D.setCell ⟨o,a+12,XJ⟩ (Xz XJ 0 0)) o g N m { I with Ux:=[] } (cX L 9 ⟨XJ,0⟩)/\aj o D L (D.setCell ⟨o,a+12,XJ⟩ (Xz XJ 0 0)) (cX L 9 ⟨XJ,0⟩) :=
 h.put (d':={ I with Ux:=[] }) a 12 c 9 (by omega) ⟨XJ,0⟩ ⟨by simp[aT,eU,jQ],P0 ⟨by simp[aT,eU],by simp[aT,eU]⟩⟩ (Ts _ _) (P0 rfl) (tK I L []) _ (by omega) (by simp[bM,cX])
def aN(d:Db)(x:ByteArray):Int×Db :=
 if(x.toList == [36,102])=XL then(0,{ d with kind:=2 })
 else if(x.toList == [36,101])=XL then(0,{ d with kind:=3 })
 else if(x.toList == [36,97])=XL then(0,{ d with kind:=4 })
 else if(x.toList == [36,112])=XL then(0,{ d with kind:=5 })
 else(14,d)
def bO(d:Db):Int×Db:=if d.Um.length=0 then(15,d) else(0,{ d with Uq:=XL })
def bj(d:Db)(x:ByteArray):Int×Db :=
 if dz x=XL then(8,d) else if dF x=XM then(12,d) else if cm d x=XL then(13,d)
 else(0,{ d with Uu:=d.Uu++[x],label:=x,kind:=6 })
def iU(d:Db)(p:Pl):Int×Db :=
 if(d.Um.length:Int)<dX d then(15,d)
 else if(d.kind==5)=XL/\d.Uq=XM then(23,d)
 else(0,{ bK d p with kind:=0,label:=⟨#[]⟩,Um:=[],Uq:=XM,Ux:=[] })
def dS(d:Db)(q:Nat×Nat):Db :=
 match d.rbl.getLast? with
 | none=>cL d d.blocks.dropLast q
 | some x=>{ cL d d.blocks.dropLast q with rbl:=d.rbl.dropLast,UD:=cH d.UD x }
def aA(d:Db)(x:ByteArray):Int×Db :=
 if(x.toList == [36,123])=XL then(0,{ d with blocks:=d.blocks++[(d.Uv.length,d.Uy.length)],rbl:=d.rbl++[d.UD.length] })
 else if(x.toList == [36,125])=XL then(match d.blocks.getLast? with | none=>(9,d) | some p=>(0,dS d p))
 else if(x.toList == [36,99])=XL then(if 0<d.blocks.length then(10,d) else(0,{ d with kind:=7 }))
 else if(x.toList == [36,118])=XL then(0,{ d with kind:=8 })
 else if(x.toList == [36,100])=XL then(0,{ d with kind:=1 })
 else if(x.toList == [36,102])=XL∨(x.toList == [36,101])=XL∨(x.toList == [36,97])=XL∨(x.toList == [36,112])=XL then(11,d)
 else bj d x
def aK(d:Db)(x:ByteArray)(p:Pl):Int×Db :=
 if(d.kind==0)=XL then aA d x
 else if(d.kind==6)=XL then aN d x
 else if(x.toList == [36,46])=XL then iU d p
 else if(x.toList == [36,61])=XL/\(d.kind==5)=XL/\d.Uq=XM then bO d
 else if dz x=XL then(8,d)
 else if d.Uq=XL then(0,{ d with Ux:=d.Ux++[(x,p)] })
 else if(aC d x==0)=XL then(0,{ d with Um:=d.Um++[x] })
 else(aC d x,d)
set_option maxRecDepth 100000
theorem ry(h:aO a f n S x w H)(o:S.length=l) :
  XO prog 173 #[XA (XK ⟨f,l,XJ⟩),Xy b] a fun e q=>e=XH (Xx XF (aN w b).1)/\∃p,aO q f n S x (aN w b).2 p/\aj f a H q p:=by
 obtain⟨v,y,z,A,B,C,D,E,F,G,s,t,u⟩:=h.cells l o;have r:=h.free;cases c:(b.toList == [36,102])
 ·cases g:(b.toList == [36,101])
  ·cases m:(b.toList == [36,97])
   ·cases k:(b.toList == [36,112])
    ·have d:XN (aN w b=(14,w)):=(by show aN w b=_;simp only[aN,c,g,m,k];simp);go_enter func173,ntmps173;go_wp2;go_ret;exact⟨ay (by rw[d.out]),H,by rw[d.out];exact h,aj.refl _ _ _⟩
    ·have d:XN (aN w b=(0,{ w with kind:=5 })):=(by show aN w b=_;simp only[aN,c,g,m,k];simp);have i:=h.kind l o 5;go_enter func173,ntmps173;go_wp2;go_ret;exact⟨ay (by rw[d.out]),H,by rw[d.out];exact i.out.1,i.out.2⟩
   ·have d:XN (aN w b=(0,{ w with kind:=4 })):=(by show aN w b=_;simp only[aN,c,g,m];simp);have i:=h.kind l o 4;go_enter func173,ntmps173;go_wp2;go_ret;exact⟨ay (by rw[d.out]),H,by rw[d.out];exact i.out.1,i.out.2⟩
  ·have d:XN (aN w b=(0,{ w with kind:=3 })):=(by show aN w b=_;simp only[aN,c,g];simp);have i:=h.kind l o 3;go_enter func173,ntmps173;go_wp2;go_ret;exact⟨ay (by rw[d.out]),H,by rw[d.out];exact i.out.1,i.out.2⟩
 ·have d:XN (aN w b=(0,{ w with kind:=2 })):=by show aN w b=_;simp only[aN,c];simp
  have i:=h.kind l o 2;go_enter func173,ntmps173;go_wp2;go_ret;exact⟨ay (by rw[d.out]),H,by rw[d.out];exact i.out.1,i.out.2⟩
theorem sf(h:aO a f n S x w H)(j:S.length=l) :
  XO prog 175 #[XA (XK ⟨f,l,XJ⟩)] a fun e k=>e=XH (Xx XF (bO w).1)/\∃g,aO k f n S x (bO w).2 g/\aj f a H k g:=by
 obtain⟨s,t,u,v,y,z,A,B,C,D,o,p,q⟩:=h.cells l j;have m:=h.free;by_cases c:w.Um.length=0
 ·have b:XN (bO w=(15,w)):=by show bO w=_;simp only[bO,c];simp
  have d:((w.Um.length:Int)==0)=XL:=by simp[c]
  clear c;go_enter func175,ntmps175;go_wp2;go_ret;exact⟨ay (by rw[b.out]),H,by rw[b.out];exact h,aj.refl _ _ _⟩
 ·have b:XN (bO w=(0,{ w with Uq:=XL })):=by show bO w=_;simp only[bO,c];simp
  have d:((w.Um.length:Int)==0)=XM:=Qi.2 (by omega);have i:=h.Uq l j XL;clear c;go_enter func175,ntmps175;go_wp2;go_ret;exact⟨ay (by rw[b.out]),H,by rw[b.out];exact i.out.1,i.out.2⟩
theorem uE(h:aO a f n S x w H)(g:S.length=l)(k:eu w 100000000)(i:b.size<=1073741824) :
  XO prog 185 #[XA (XK ⟨f,l,XJ⟩),Xy b] a fun e K=>e=XH (Xx XF (bj w b).1)/\∃t,aO K f n S x (bj w b).2 t/\aj f a H K t:=by
 obtain⟨z,A,B,C,D,E,F,G,I,J,m,o,p⟩:=h.cells l g;have j:=h.free;cases q:dz b
 ·cases s:dF b
  ·have c:XN (bj w b=(12,w)):=(by show bj w b=_;simp[bj,q,s]);go_enter func185,ntmps185;go_wp2_with (first | (go_at_call 171;refine(dt b _ i).mono ?_;rintro e d ⟨rfl,rfl⟩) | (go_at_call 200;refine(jB b _ i).mono ?_;rintro e d ⟨rfl,rfl⟩) | (go_at_call 189;refine(iH f n l S x w H b _ (by exact h) g (k.mono (by omega))).mono ?_;rintro e d ⟨rfl,rfl⟩));go_ret;exact⟨ay (by rw[c.out]),H,by rw[c.out];exact h,aj.refl _ _ _⟩
  ·cases y:cm w b
   ·have c:XN (bj w b=(0,{ w with Uu:=w.Uu++[b],label:=b,kind:=6 })):=(by show bj w b=_;simp[bj,q,s,y]);have N:=k.Uu;go_enter func185,ntmps185;go_wp2_with (first | (go_at_call 171;refine(dt b _ i).mono ?_;rintro e d ⟨rfl,rfl⟩) | (go_at_call 200;refine(jB b _ i).mono ?_;rintro e d ⟨rfl,rfl⟩) | (go_at_call 189;refine(iH f n l S x w H b _ (by exact h) g (k.mono (by omega))).mono ?_;rintro e d ⟨rfl,rfl⟩));refine(wg f n l S x w H b _ (by exact h) g (by omega)).mono ?_;rintro e P ⟨rfl,L,r,M⟩;have v:=r.lab l g b;have u:=v.out.1.kind l g 6;clear z A B C D E F G I J m o p j;obtain⟨z,A,B,C,D,E,F,G,I,J,m,o,p⟩:=r.cells l g;have j:=r.free;go_wp2;go_ret;exact⟨ay (by rw[c.out]),L,by rw[c.out];exact u.out.1,M.trans (v.out.2.trans u.out.2)⟩
   ·have c:XN (bj w b=(13,w)):=(by show bj w b=_;simp[bj,q,s,y]);go_enter func185,ntmps185;go_wp2_with (first | (go_at_call 171;refine(dt b _ i).mono ?_;rintro e d ⟨rfl,rfl⟩) | (go_at_call 200;refine(jB b _ i).mono ?_;rintro e d ⟨rfl,rfl⟩) | (go_at_call 189;refine(iH f n l S x w H b _ (by exact h) g (k.mono (by omega))).mono ?_;rintro e d ⟨rfl,rfl⟩));go_ret;exact⟨ay (by rw[c.out]),H,by rw[c.out];exact h,aj.refl _ _ _⟩
 ·have c:XN (bj w b=(8,w)):=by show bj w b=_;simp[bj,q]
  go_enter func185,ntmps185;go_wp2_with (first | (go_at_call 171;refine(dt b _ i).mono ?_;rintro e d ⟨rfl,rfl⟩) | (go_at_call 200;refine(jB b _ i).mono ?_;rintro e d ⟨rfl,rfl⟩) | (go_at_call 189;refine(iH f n l S x w H b _ (by exact h) g (k.mono (by omega))).mono ?_;rintro e d ⟨rfl,rfl⟩));go_ret;exact⟨ay (by rw[c.out]),H,by rw[c.out];exact h,aj.refl _ _ _⟩
theorem Fk:1<=dX i:=by unfold dX;split <;> omega
theorem Le(h:aO a f n S x w H)(c:S.length=l)(hs:eu w 10000000) :
  XO prog 174 #[XA (XK ⟨f,l,XJ⟩),XB #[Xy b,Xx XF v,Xx XF d]] a fun e V=>e=XH (Xx XF (iU w ⟨b,v,d⟩).1)/\∃L,aO V f n S x (iU w ⟨b,v,d⟩).2 L/\aj f a H V L:=by
 obtain⟨W,r⟩:∃W,W=a.alloc (XE #[Xy b,Xx XF v,Xx XF d] 67):=⟨_,rfl⟩
 have K:aa [] a W:=by rw[r];exact(aa.refl [] _).alloc _
 have D:=h.Ur K;have u:XN _:=r.symm;have B:W.heap[a.heap.size]?=XK (XE #[Xy b,Xx XF v,Xx XF d] 67):=by rw[r];exact PM _ _
 have p0:XI W ⟨a.heap.size,0,XJ⟩=XK (Xy b):=by rw[ab B];rfl
 have p1:XI W ⟨a.heap.size,1,XJ⟩=XK (Xx XF v):=by rw[ab B];rfl
 have p2:XI W ⟨a.heap.size,2,XJ⟩=XK (Xx XF d):=by rw[ab B];rfl
 clear r B h;obtain⟨z,A,C,E,F,G,I,J,T,U,p,g,q⟩:=D.cells l c;clear z A C E F G I J U q;have k:=D.free;by_cases j:(w.Um.length:Int)<dX w
 ·have i:XN (iU w ⟨b,v,d⟩=(15,w)):=by show iU w ⟨b,v,d⟩=_;simp only[iU,if_pos j]
  go_enter func174,ntmps174;go_upto_region 1 with fail
  rw[u.out];go_quiet ((go_at_call 186;exact QC (qe f n l S x w H _ (D.Ur ((aa.refl [] W).drewN _)) c)));go_wp2;go_ret;exact⟨ay (by rw[i.out]),H,by rw[i.out];exact D.Ur ((aa.refl [] _).drewN _),(aj.refl _ _ _).Ur (K.drewN _)⟩
 ·have y:XN (0<w.Um.length):=by have:=Fk w;show 0<_;omega
  by_cases o:(w.kind==5)=XL/\w.Uq=XM
  ·have i:XN (iU w ⟨b,v,d⟩=(23,w)):=(by show iU w ⟨b,v,d⟩=_;simp only[iU,if_neg j,if_pos o]);obtain⟨s,Y⟩:=o;rw[Y]at g;go_enter func174,ntmps174;(go_upto_region 1 with fail);rw[u.out];go_quiet ((go_at_call 186;exact QC (qe f n l S x w H _ (D.Ur ((aa.refl [] W).drewN _)) c)));go_wp2;go_ret;exact⟨ay (by rw[i.out]),H,by rw[i.out];exact D.Ur ((aa.refl [] _).drewN _),(aj.refl _ _ _).Ur (K.drewN _)⟩
  ·have i:XN (iU w ⟨b,v,d⟩=(0,{ bK w ⟨b,v,d⟩ with kind:=0,label:=⟨#[]⟩,Um:=[],Uq:=XM,Ux:=[] })):=(by show iU w ⟨b,v,d⟩=_;simp only[iU,if_neg j,if_neg o]);have m:(w.kind==5)=XL->w.Uq=XL:=by
    intro s;cases Z:w.Uq with
    | true=>rfl
    | false=>exact absurd ⟨s,Z⟩ o
   cases s:(w.kind==5)
   all_goals
    try rw[m s]at g
    clear m;clear o;go_enter func174,ntmps174;(go_upto_region 1 with fail);rw[u.out];go_quiet ((go_at_call 186;exact QC (qe f n l S x w H _ (D.Ur ((aa.refl [] W).drewN _)) c)));go_wp2_with fail;refine(yE f n l S x w H b v d _ (by exact D.Ur ((aa.refl [] _).drewN _)) c y.out hs).mono ?_;rintro e w2 ⟨rfl,H2,t,X⟩;have M:=t.kind l c 0;have N:=M.out.1.lab l c ⟨#[]⟩;have O:XN _:=N.out.1.forget l c;have P:=O.out.1.Uq l c XM;have Q:XN _:=P.out.1.noProof l c;clear T p g k p0 p1 p2;obtain⟨z,A,C,E,F,G,I,J,T,U,p,g,q⟩:=t.cells l c;clear z A C E F G I J;have k:=t.free;go_wp2;go_ret;exact⟨ay (by rw[i.out]),_,by rw[i.out];exact Q.out.1,(X.first (K.drewN _)).trans (M.out.2.trans (N.out.2.trans (O.out.2.trans (P.out.2.trans Q.out.2))))⟩
theorem nM{α:Type}{l:List α}{p:α}(h:l.getLast?=XK p):l=l.dropLast++[p]:=by
 obtain⟨a,rfl⟩:=List.getLast?_eq_some_iff.1 h;simp
structure xY(d:Db)(N:Nat):Prop where
 names:∀p,p∈d.blocks->p.1<=N/\p.2<=N
 same:d.rbl.length=d.blocks.length
 recs:∀x,x∈d.rbl->x<=d.UD.length
theorem uD(h:aO a f n S x w H)(t:S.length=l)(G:eu w 10000000)(hx:b.size<=1073741824)(L:xY w 100000000) :
  XO prog 172 #[XA (XK ⟨f,l,XJ⟩),Xy b] a fun e U=>e=XH (Xx XF (aA w b).1)/\∃R,aO U f n S x (aA w b).2 R/\aj f a H U R:=by
 have k:=G.mono (M:=100000000) (by omega);obtain⟨q0,q1,q2,q3,q4,q5,q6,q7,q8,q9,ad,ag,ah⟩:=h.cells l t;have ac:=h.free;cases c:(b.toList == [36,123])
 ·cases g:(b.toList == [36,125])
  ·cases o:(b.toList == [36,99])
   ·cases j:(b.toList == [36,118])
    ·cases m:(b.toList == [36,100])
     ·cases q:(b.toList == [36,102])
      ·cases s:(b.toList == [36,101])
       ·cases A:(b.toList == [36,97])
        ·cases v:(b.toList == [36,112])
         ·have d:XN (aA w b=bj w b):=(by show aA w b=_;simp only[aA,c,g,o,j,m,q,s,A,v];simp);go_enter func172,ntmps172;go_wp2_with fail;refine(uE f n l S x w H b _ (by exact h) t k hx).mono ?_;rintro e V ⟨rfl,J,D,E⟩;go_wp2;go_ret;exact⟨ay (by rw[d.out]),J,by rw[d.out];exact D,E⟩
         ·have d:XN (aA w b=(11,w)):=(by show aA w b=_;simp only[aA,c,g,o,j,m,q,s,A,v];simp);go_enter func172,ntmps172;go_wp2;go_ret;exact⟨ay (by rw[d.out]),H,by rw[d.out];exact h,aj.refl _ _ _⟩
        ·have d:XN (aA w b=(11,w)):=(by show aA w b=_;simp only[aA,c,g,o,j,m,q,s,A];simp);go_enter func172,ntmps172;go_wp2;go_ret;exact⟨ay (by rw[d.out]),H,by rw[d.out];exact h,aj.refl _ _ _⟩
       ·have d:XN (aA w b=(11,w)):=(by show aA w b=_;simp only[aA,c,g,o,j,m,q,s];simp);go_enter func172,ntmps172;go_wp2;go_ret;exact⟨ay (by rw[d.out]),H,by rw[d.out];exact h,aj.refl _ _ _⟩
      ·have d:XN (aA w b=(11,w)):=(by show aA w b=_;simp only[aA,c,g,o,j,m,q];simp);go_enter func172,ntmps172;go_wp2;go_ret;exact⟨ay (by rw[d.out]),H,by rw[d.out];exact h,aj.refl _ _ _⟩
     ·have d:XN (aA w b=(0,{ w with kind:=1 })):=(by show aA w b=_;simp only[aA,c,g,o,j,m];simp);have u:=h.kind l t 1;go_enter func172,ntmps172;go_wp2;go_ret;exact⟨ay (by rw[d.out]),H,by rw[d.out];exact u.out.1,u.out.2⟩
    ·have d:XN (aA w b=(0,{ w with kind:=8 })):=(by show aA w b=_;simp only[aA,c,g,o,j];simp);have u:=h.kind l t 8;go_enter func172,ntmps172;go_wp2;go_ret;exact⟨ay (by rw[d.out]),H,by rw[d.out];exact u.out.1,u.out.2⟩
   ·by_cases i:0<w.blocks.length
    ·have d:XN (aA w b=(10,w)):=(by show aA w b=_;simp only[aA,c,g,o,i];simp);have B:decide (0<w.blocks.length)=XL:=(by simpa using i);clear i;go_enter func172,ntmps172;go_wp2_with (go_at_call 156;refine(iG f n l S x w H _ (by exact h) t).mono ?_;rintro e Q ⟨rfl,rfl⟩);go_ret;exact⟨ay (by rw[d.out]),H,by rw[d.out];exact h,aj.refl _ _ _⟩
    ·have d:XN (aA w b=(0,{ w with kind:=7 })):=(by show aA w b=_;simp only[aA,c,g,o,i];simp);have B:decide (0<w.blocks.length)=XM:=(by simpa using i);have u:=h.kind l t 7;clear i;go_enter func172,ntmps172;go_wp2_with (go_at_call 156;refine(iG f n l S x w H _ (by exact h) t).mono ?_;rintro e Q ⟨rfl,rfl⟩);go_ret;exact⟨ay (by rw[d.out]),H,by rw[d.out];exact u.out.1,u.out.2⟩
  ·rcases hbb:w.blocks.getLast? with _ | p
   ·have i:w.blocks=[]:=(by simpa using hbb);have d:XN (aA w b=(9,w)):=(by show aA w b=_;simp only[aA,c,g,hbb];simp);have B:decide (0<w.blocks.length)=XM:=(by rw[i];rfl);clear hbb i;go_enter func172,ntmps172;go_wp2_with (go_at_call 156;refine(iG f n l S x w H _ (by exact h) t).mono ?_;rintro e Q ⟨rfl,rfl⟩);go_ret;exact⟨ay (by rw[d.out]),H,by rw[d.out];exact h,aj.refl _ _ _⟩
   ·have i:w.blocks=w.blocks.dropLast++[p]:=nM hbb;have d:XN (aA w b=(0,dS w p)):=(by show aA w b=_;simp only[aA,c,g,hbb];simp);have B:decide (0<w.blocks.length)=XL:=(by rw[i];simp);have X:XN (w.blocks=w.blocks.dropLast++[p]):=i;have hp:=L.names p (by rw[i];simp);have F:w.rbl≠[]:=(by intro e;have:=L.same;rw[e,i]at this;simp at this);obtain⟨y,N⟩:∃y,w.rbl.getLast?=XK y:=⟨_,Td F⟩
    have T:XN (w.rbl=w.rbl.dropLast++[y]):=nM N;have O:=L.recs y (by rw[T.out];simp);have Y:XN (dS w p={ cL w w.blocks.dropLast p with rbl:=w.rbl.dropLast,UD:=cH w.UD y }):=(by show dS w p=_;unfold dS;rw[N]);have C:XN (eu (cL w w.blocks.dropLast p) 100000000):=⟨k.Uu,k.Uo,k.Up,by have:=k.Uv;simp only[cL,List.length_take];omega,by have:=k.Uy;simp only[cL,List.length_take];omega,by have:=k.blocks;simp only[cL,List.length_dropLast];omega,k.UD,k.rbl,k.Um,k.Ux⟩;clear hbb i F N;go_enter func172,ntmps172;go_wp2_with (go_at_call 156;refine(iG f n l S x w H _ (by exact h) t).mono ?_;rintro e Q ⟨rfl,rfl⟩);refine(wC f n l S x w H w.blocks.dropLast p _ (by exact h) t X.out (k.mono (by omega)) ⟨by omega,by omega⟩).mono ?_;rintro e V ⟨rfl,D,E⟩;go_wp2_with fail;refine(Cv f n l S x (cL w w.blocks.dropLast p) H w.rbl.dropLast y _ (by exact D) t T.out C.out O).mono ?_;rintro e w3 ⟨rfl,I,K⟩;go_wp2;go_ret;exact⟨ay (by rw[d.out]),H,by rw[d.out,Y.out];exact I,E.trans K⟩
 ·have d:XN (aA w b=(0,{ w with blocks:=w.blocks++[(w.Uv.length,w.Uy.length)],rbl:=w.rbl++[w.UD.length] })):=by show aA w b=_;simp only[aA,c];simp
  have Z:=k.blocks;have C:XN (eu { w with blocks:=w.blocks++[(w.Uv.length,w.Uy.length)] } 100000000):=⟨k.Uu,k.Uo,k.Up,k.Uv,k.Uy,by have:=G.blocks;simp;omega,k.UD,k.rbl,k.Um,k.Ux⟩;go_enter func172,ntmps172;go_wp2_with fail;refine(se f n l S x w H _ (by exact h) t (by omega)).mono ?_;rintro e V ⟨rfl,J,D,E⟩;go_wp2_with fail;refine(xo f n l S x { w with blocks:=w.blocks++[(w.Uv.length,w.Uy.length)] } J _ (by exact D) t C.out).mono ?_;rintro e w3 ⟨rfl,W,I,K⟩;go_wp2;go_ret;exact⟨ay (by rw[d.out]),W,by rw[d.out];exact I,E.trans K⟩
theorem EJ(h:(b.toList == [36,61])=XL):dz b=XL:=by
 have:b=⟨#[36,61]⟩:=eD (by rw[ByteArray.toList_mk [36,61]];simpa using h);rw[this];decide +kernel
theorem Ge(l:List (ByteArray×Pl))(p:ByteArray×Pl):(⟨(eU l).e,(eU l).size,(eU l).n+1,(eU l).xs++ni p⟩:fe)=eU (l++[p]):=by
 simp[eU,jQ]
def fo(b t o:Nat)(pre post:List XQ)(d:Db)(H:Nat->Hd)(x f:ByteArray)(l c:Int)(w:XP):Prop :=
 XO prog 155 #[XA (XK ⟨b,o,XJ⟩),Xy x,XB #[Xy f,Xx XF l,Xx XF c]] w fun e w'=>e=XH (Xx XF (aK d x ⟨f,l,c⟩).1)/\∃H',aO w' b t pre post (aK d x ⟨f,l,c⟩).2 H'/\aj b w H w' H'
theorem sj(h:aO D o g N m I L)(f:ByteArray)(l c:Int) :
  ∃W,XN (D.alloc (XE #[Xy f,Xx XF l,Xx XF c] 67)=W)/\aa [] D W/\aO W o g N m I L/\XI W ⟨D.heap.size,0,XJ⟩=XK (Xy f)/\XI W ⟨D.heap.size,1,XJ⟩=XK (Xx XF l)/\XI W ⟨D.heap.size,2,XJ⟩=XK (Xx XF c):=by
 have B:(D.alloc (XE #[Xy f,Xx XF l,Xx XF c] 67)).heap[D.heap.size]?=XK (XE #[Xy f,Xx XF l,Xx XF c] 67):=PM _ _;refine⟨_,rfl,(aa.refl [] _).alloc _,h.Ur ((aa.refl [] _).alloc _),?_,?_,?_⟩ <;> rw[ab B] <;> rfl
theorem Av(h:aO a f n S x w H)(z:S.length=l)(r:eu w 10000000)(Z:T.size<=1073741824)(O:(w.kind==0)=XM)(k1:(w.kind==6)=XM)(o:(T.toList == [36,46])=XM)(p:(T.toList == [36,61])=XM)(V:dz T=XM)(I:w.Uq=XM) :
  fo f n l S x w H T b v d a:=by
 unfold fo;have X:=r.mono (M:=1073741824) (by omega);obtain⟨W,U,K,D,p0,p1,p2⟩:=sj h b v d;clear h;obtain⟨q0,q1,q2,q3,q4,q5,q6,q7,q8,q9,P,t,Q⟩:=D.cells l z;clear q0 q1 q2 q3 q4 q5 q6 q7 q9 Q;have F:=D.free;rw[I]at t;cases C:(aC w T==0)
 ·have k:XN (aK w T ⟨b,v,d⟩=(aC w T,w)):=by show aK w T ⟨b,v,d⟩=_;simp[aK,O,k1,o,p,V,I,C]
  go_enter func155,ntmps155;go_upto_region 1 with fail
  rw[U.out];go_wp2_with (first | (go_at_call 171;refine(dt T _ Z).mono ?_;rintro e A ⟨rfl,rfl⟩) | (go_at_call 176;refine(lh f n l S x w H T _ (by exact D) z X).mono ?_;rintro e A ⟨rfl,rfl⟩));go_ret;exact⟨ay (by rw[k.out]),H,by rw[k.out];exact D,(aj.refl _ _ _).Ur K⟩
 ·have k:XN (aK w T ⟨b,v,d⟩=(0,{ w with Um:=w.Um++[T] })):=by show aK w T ⟨b,v,d⟩=_;simp[aK,O,k1,o,p,V,I,C]
  have E:XN (aC w T=0):=(show aC w T=0 by simpa using C);have ad:=r.Um;obtain⟨i0,G,J,L,N⟩:=Qq ey;have B:=D.Ur ((aa.refl [] W).alloc (XE #[Xy T] 9));have i:=B.own 8;have ac:=D.lt;go_enter func155,ntmps155;go_upto_region 1 with fail
  rw[U.out];go_wp2_with (first | (go_at_call 171;refine(dt T _ Z).mono ?_;rintro e A ⟨rfl,rfl⟩) | (go_at_call 176;refine(lh f n l S x w H T _ (by exact D) z X).mono ?_;rintro e A ⟨rfl,rfl⟩) | (at_builtin;refine aD _ rfl (.tmp 74) (.tmp 76) 22 rfl i0 (Xy ⟨#[]⟩) 16 (H 8) (au w.Um) underlying22 G J L N rfl Qf rfl (by exact i) ⟨_,0,XJ⟩ 1 1 [Xy T] rfl rfl ?c1 ?c2 Qf ?c3 ?c4 ?_))
  case c1=>intro j u y;match j,y with | 0,y=>simp at y;subst y;simp[Addr.add]
  case c2=>intro u Y;simp at Y;subst Y;rfl
  case c3=>simp only[au];unfold maxLen;omega
  case c4=>simp only[au];omega
  intro g m A s q c;obtain⟨O,f0,R⟩:=B.app (d':={ w with Um:=w.Um++[T] }) l 10 z 8 (by omega) g m ((au w.Um).n+1) _ s (bJ w.Um T) q (by simpa using c) (pC w H _) (by omega) _ rfl (by simp[bM,cX,au]);clear B i q8 P t s q c F;go_wp2;go_ret;exact⟨ay (by rw[k.out,E.out]),_,by rw[k.out];exact R.out.1,R.out.2.first (K.alloc _)⟩
theorem uF(h:aO a f n S x w H)(F:S.length=l)(r:eu w 10000000)(U:T.size<=1073741824)(X:(w.kind==0)=XM)(Y:(w.kind==6)=XM)(o:(T.toList == [36,46])=XM)(p:(T.toList == [36,61])=XM)(N:dz T=XM)(G:w.Uq=XL) :
  fo f n l S x w H T b v d a:=by
 unfold fo;obtain⟨W,J,K,D,p0,p1,p2⟩:=sj h b v d;clear h;obtain⟨Z,q1,q2,q3,q4,q5,q6,q7,q8,q9,z,A,ac⟩:=D.cells l F;clear Z q1 q2 q3 q4 q5 q6 q7 q9 z;have O:=D.free;rw[G]at A;have C:XN (aK w T ⟨b,v,d⟩=(0,{ w with Ux:=w.Ux++[(T,⟨b,v,d⟩)] })):=by show aK w T ⟨b,v,d⟩=_;simp[aK,X,Y,o,p,N,G]
 have R:=r.Ux;obtain⟨V,q,s,t,y⟩:=Qq MU;have M:=D.lt;have E:XN (aO (W.alloc (XE #[Xy T,Xy b,Xx XF v,Xx XF d] 235)).drew f n S x w H):=D.Ur ((aa.refl [] W).alloc _).drew;have s2:XN (∀j u,(ni (T,⟨b,v,d⟩))[j]?=XK u->(W.alloc (XE #[Xy T,Xy b,Xx XF v,Xx XF d] 235)).drew.cell? ((⟨W.heap.size,0,XJ⟩:Addr).add j)=XK u):=by
  intro j u P;have Q:(W.alloc (XE #[Xy T,Xy b,Xx XF v,Xx XF d] 235)).drew.heap[W.heap.size]?=XK (XE #[Xy T,Xy b,Xx XF v,Xx XF d] 235):=PM _ _;rw[ba,ab Q];simpa [ni] using P
 have s3:XN (∀u∈ni (T,⟨b,v,d⟩),u.oneCell'=XL):=by
  intro u I;simp only[ni,List.mem_cons,List.not_mem_nil,or_false]at I;rcases I with rfl | rfl | rfl | rfl <;> rfl
 have s4:XN ((eU w.Ux).n+1<=maxLen):=by show _<=_;simp only[eU];unfold maxLen;omega
 have s5:XN (((eU w.Ux).n+1)*48<=140737488355328):=by show _<=_;simp only[eU];omega
 go_enter func155,ntmps155;go_upto_region 1 with fail
 rw[J.out];go_wp2_with (go_at_call 171;refine(dt T _ U).mono ?_;rintro e w1 ⟨rfl,rfl⟩);go_region_law (refine aP rfl (.tmp 57) (.tmp 61) 108 rfl V (XB #[Xy ⟨#[]⟩,Xy ⟨#[]⟩,Xx XF 0,Xx XF 0]) 48 (H 9) (eU w.Ux) underlying108 q s t y rfl (RK 3) (by simp[Act.eval] <;> rfl) (E.out.own 9) ⟨_,0,XJ⟩ 1 1 (ni (T,⟨b,v,d⟩)) (by simp[Act.eval] <;> rfl) rfl s2.out s3.out Qf s4.out s5.out ?_;intro g i w1 m k c;obtain⟨k5,f5,B⟩:=E.out.app (d':={ w with Ux:=w.Ux++[(T,⟨b,v,d⟩)] }) l 12 F 9 (by omega) g i ((eU w.Ux).n+1) _ m (Ge w.Ux (T,⟨b,v,d⟩)) k (by simpa using c) (tK w H _) (by omega) _ rfl (by simp[bM,cX,eU]);clear m k c)
 all_goals go_wp2
 all_goals go_ret
 all_goals exact⟨ay (by rw[C.out]),_,by rw[C.out];exact B.out.1,B.out.2.first (K.trans ((aa.refl [] _).alloc _).drew)⟩
theorem CR(h:aO a f n S x w H)(t:S.length=l)(u:T.size<=1073741824)(o:(w.kind==0)=XM)(p:(w.kind==6)=XM)(g:(T.toList == [36,46])=XM)(i:(T.toList == [36,61])=XL) :
  fo f n l S x w H T b v d a:=by
 unfold fo;obtain⟨W,m,K,D,Q,R,U⟩:=sj h b v d;clear h;obtain⟨E,F,G,I,J,L,M,N,V,O,q,j,r⟩:=D.cells l t;clear E F G I J L M N O q r;have C:=D.free;have s:=EJ T i;cases y:(w.kind==5)
 ·have c:XN (aK w T ⟨b,v,d⟩=(8,w)):=by show aK w T ⟨b,v,d⟩=_;simp[aK,o,p,g,y,s]
  go_enter func155,ntmps155;go_upto_region 1 with fail
  rw[m.out];go_wp2_with (go_at_call 171;refine(dt T _ u).mono ?_;rintro e P ⟨rfl,rfl⟩);go_ret;exact⟨ay (by rw[c.out]),H,by rw[c.out];exact D,(aj.refl _ _ _).Ur K⟩
 ·cases k:w.Uq
  ·have c:XN (aK w T ⟨b,v,d⟩=bO w):=(by show aK w T ⟨b,v,d⟩=_;simp only[aK,o,p,g,i,y,k];simp);rw[k]at j;go_enter func155,ntmps155;(go_upto_region 1 with fail);rw[m.out];go_wp2_with fail;refine(sf f n l S x w H _ (by exact D) t).mono ?_;rintro e X ⟨rfl,A,z,B⟩;go_wp2;go_ret;exact⟨ay (by rw[c.out]),A,by rw[c.out];exact z,B.first K⟩
  ·have c:XN (aK w T ⟨b,v,d⟩=(8,w)):=(by show aK w T ⟨b,v,d⟩=_;simp[aK,o,p,g,k,s]);rw[k]at j;go_enter func155,ntmps155;(go_upto_region 1 with fail);rw[m.out];go_wp2_with (go_at_call 171;refine(dt T _ u).mono ?_;rintro e P ⟨rfl,rfl⟩);go_ret;exact⟨ay (by rw[c.out]),H,by rw[c.out];exact D,(aj.refl _ _ _).Ur K⟩
theorem J4(h:aO a f n S x w H)(m:S.length=l)(M:eu w 10000000)(J:T.size<=1073741824)(L:xY w 100000000) :
  fo f n l S x w H T b v d a:=by
 cases q:(w.kind==0)
 ·cases E:(w.kind==6)
  ·cases k:(T.toList == [36,46])
   ·cases o:(T.toList == [36,61])
    ·cases N:dz T
     ·cases U:w.Uq
      ·exact Av f n l S x w H T b v d a h m M J q E k o N U
      ·exact uF f n l S x w H T b v d a h m M J q E k o N U
     ·unfold fo;obtain⟨W,p,K,D,O,P,Q⟩:=sj h b v d;clear h L;obtain⟨r,s,t,u,y,z,A,B,R,C,c,i,g⟩:=D.cells l m;clear r s t u y z A B C c g;have j:XN (aK w T ⟨b,v,d⟩=(8,w)):=(by show aK w T ⟨b,v,d⟩=_;simp[aK,q,E,k,o,N]);go_enter func155,ntmps155;(go_upto_region 1 with fail);rw[p.out];go_wp2_with (go_at_call 171;refine(dt T _ J).mono ?_;rintro e X ⟨rfl,rfl⟩);go_ret;exact⟨ay (by rw[j.out]),H,by rw[j.out];exact D,(aj.refl _ _ _).Ur K⟩
    ·exact CR f n l S x w H T b v d a h m J q E k o
   ·unfold fo;obtain⟨W,p,K,D,O,P,Q⟩:=sj h b v d;clear h L;obtain⟨r,s,t,u,y,z,A,B,R,C,c,i,g⟩:=D.cells l m;clear r s t u y z A B C c i g;have j:XN (aK w T ⟨b,v,d⟩=iU w ⟨b,v,d⟩):=(by show aK w T ⟨b,v,d⟩=_;simp only[aK,q,E,k];simp);go_enter func155,ntmps155;(go_upto_region 1 with fail);rw[p.out];go_wp2_with fail;refine(Le f n l S x w H b v d _ (by exact D) m M).mono ?_;rintro e V ⟨rfl,G,F,I⟩;go_wp2;go_ret;exact⟨ay (by rw[j.out]),G,by rw[j.out];exact F,I.first K⟩
  ·unfold fo;obtain⟨W,p,K,D,O,P,Q⟩:=sj h b v d;clear h L;obtain⟨r,s,t,u,y,z,A,B,R,C,c,i,g⟩:=D.cells l m;clear r s t u y z A B C c i g;have j:XN (aK w T ⟨b,v,d⟩=aN w T):=(by show aK w T ⟨b,v,d⟩=_;simp only[aK,q,E];simp);go_enter func155,ntmps155;(go_upto_region 1 with fail);rw[p.out];go_wp2_with fail;refine(ry f n l S x w H T _ (by exact D) m).mono ?_;rintro e V ⟨rfl,G,F,I⟩;go_wp2;go_ret;exact⟨ay (by rw[j.out]),G,by rw[j.out];exact F,I.first K⟩
 ·unfold fo;obtain⟨W,p,K,D,O,P,Q⟩:=sj h b v d;clear h;obtain⟨r,s,t,u,y,z,A,B,R,C,c,i,g⟩:=D.cells l m;clear r s t u y z A B C c i g;have j:XN (aK w T ⟨b,v,d⟩=aA w T):=by show aK w T ⟨b,v,d⟩=_;simp only[aK,q];simp
  go_enter func155,ntmps155;go_upto_region 1 with fail
  rw[p.out];go_wp2_with fail;refine(uD f n l S x w H T _ (by exact D) m M J L).mono ?_;rintro e V ⟨rfl,G,F,I⟩;go_wp2;go_ret;exact⟨ay (by rw[j.out]),G,by rw[j.out];exact F,I.first K⟩
def bB:Db:=⟨[],[],[],[],[],[],[],[],0,⟨#[]⟩,[],XM,[]⟩
abbrev on:=Int×Pl
def cy:on:=(0,⟨⟨#[]⟩,0,0⟩)
def fD(f:on):XQ:=XB #[Xx XF f.1,Xy f.2.file,Xx XF f.2.line,Xx XF f.2.col]
def fq(n s:ByteArray)(p:Nat):Pl:=⟨n,aL s p,bA s p⟩
def fU(n s:ByteArray)(i:oq):on:=(if i.fin=XL then 7 else i.rule,fq n s i.pos)
abbrev Ks:=on×List Bool×Db
def BI(fs:Fs)(x z:Nat)(p:Pl)(d:Db):on ⊕ (Nat×Nat) :=
  if de d=XL then .inl (4,p)
  else if aF (an (PH fs x) z).1=XM then .inl (fU (bH fs x) (PH fs x) (an (PH fs x) z).1)
  else if dz (an (PH fs x) z).1.text=XL then .inl (5,fq (bH fs x) (PH fs x) (an (PH fs x) z).1.pos)
  else if dY fs (an (PH fs x) z).1.text<0 then .inl (6,fq (bH fs x) (PH fs x) (an (PH fs x) z).1.pos)
  else if aF (an (PH fs x) (an (PH fs x) z).2).1=XM then .inl (fU (bH fs x) (PH fs x) (an (PH fs x) (an (PH fs x) z).2).1)
  else if((an (PH fs x) (an (PH fs x) z).2).1.text.toList == [36,93])=XM then .inl (5,fq (bH fs x) (PH fs x) (an (PH fs x) (an (PH fs x) z).2).1.pos)
  else .inr ((dY fs (an (PH fs x) z).1.text).toNat,(an (PH fs x) (an (PH fs x) z).2).2)
def lu(rf:Nat->List Bool->Db->Ks)(fs:Fs)(x z:Nat)(p:Pl)(bg:List Bool)(d:Db):Ks×Nat :=
  match BI fs x z p d with
  | .inl f=>((f,bg,d),z)
  | .inr (j,z')=>(rf j bg d,z')
def gW(rf:Nat->List Bool->Db->Ks)(fs:Fs)(x z:Nat)(t:ByteArray)(p:Pl)(bg:List Bool)(d:Db):Ks×Nat :=
  if(t.toList == [36,91])=XL then lu rf fs x z p bg d
  else((if((aK d t p).1==0)=XL then cy else((aK d t p).1,p),bg,(aK d t p).2),z)
def bh(fs:Fs):Nat->Nat->Nat->List Bool->Db->Ks
  | 0,_,_,bg,d=>(cy,bg,d)
  | f+1,x,k,bg,d =>
    if aF (an (PH fs x) k).1=XL then
      (if((gW (fun j bg d=>if bg.getD j XL=XL then(cy,bg,d) else bh fs f j 0 (bg.set j XL) d) fs x (an (PH fs x) k).2 (an (PH fs x) k).1.text (fq (bH fs x) (PH fs x) (an (PH fs x) k).1.pos) bg d).1.1.1==0)=XL
       then bh fs f x (gW (fun j bg d=>if bg.getD j XL=XL then(cy,bg,d) else bh fs f j 0 (bg.set j XL) d) fs x (an (PH fs x) k).2 (an (PH fs x) k).1.text (fq (bH fs x) (PH fs x) (an (PH fs x) k).1.pos) bg d).2
          (gW (fun j bg d=>if bg.getD j XL=XL then(cy,bg,d) else bh fs f j 0 (bg.set j XL) d) fs x (an (PH fs x) k).2 (an (PH fs x) k).1.text (fq (bH fs x) (PH fs x) (an (PH fs x) k).1.pos) bg d).1.2.1
          (gW (fun j bg d=>if bg.getD j XL=XL then(cy,bg,d) else bh fs f j 0 (bg.set j XL) d) fs x (an (PH fs x) k).2 (an (PH fs x) k).1.text (fq (bH fs x) (PH fs x) (an (PH fs x) k).1.pos) bg d).1.2.2
       else(gW (fun j bg d=>if bg.getD j XL=XL then(cy,bg,d) else bh fs f j 0 (bg.set j XL) d) fs x (an (PH fs x) k).2 (an (PH fs x) k).1.text (fq (bH fs x) (PH fs x) (an (PH fs x) k).1.pos) bg d).1)
    else if(an (PH fs x) k).1.fin=XL/\de d=XM then(cy,bg,d) else(fU (bH fs x) (PH fs x) (an (PH fs x) k).1,bg,d)
def cA(fs:Fs)(f:Nat)(j:Nat)(bg:List Bool)(d:Db):Ks :=
  if bg.getD j XL=XL then(cy,bg,d) else bh fs f j 0 (bg.set j XL) d
def fa(fs:Fs)(f x k:Nat)(bg:List Bool)(d:Db):Ks×Nat :=
  gW (cA fs f) fs x (an (PH fs x) k).2 (an (PH fs x) k).1.text (fq (bH fs x) (PH fs x) (an (PH fs x) k).1.pos) bg d
theorem DG(a:aF (an (PH k n) l).1=XL)(b:((fa k f n l z0 i).1.1.1==0)=XL) :
    bh k (f+1) n l z0 i=bh k f n (fa k f n l z0 i).2 (fa k f n l z0 i).1.2.1 (fa k f n l z0 i).1.2.2:=by
  rw[bh,PZ a];exact PZ b
theorem rI(a:aF (an (PH k n) l).1=XL)(b:((fa k f n l z0 i).1.1.1==0)=XM) :
    bh k (f+1) n l z0 i=(fa k f n l z0 i).1:=by
  rw[bh,PZ a];exact PV (fun c=>Bool.noConfusion (b.symm.trans c))
theorem wK(a:aF (an (PH k n) l).1=XM)(b:(an (PH k n) l).1.fin=XL)(c:de i=XM) :
    bh k (f+1) n l z0 i=(cy,z0,i):=by
  rw[bh,PV (by simp[a]),PZ ⟨b,c⟩]
theorem sJ(a:aF (an (PH k n) l).1=XM)(b:¬((an (PH k n) l).1.fin=XL/\de i=XM)) :
    bh k (f+1) n l z0 i=(fU (bH k n) (PH k n) (an (PH k n) l).1,z0,i):=by
  rw[bh,PV (by simp[a]),PV b]
def cV(n s:ByteArray):Nat->Nat->Db->(Int×Nat)×Db
  | 0,_,d=>((0,0),d)
  | f+1,k,d =>
    if aF (an s k).1=XL then
      (if((aK d (an s k).1.text (fq n s (an s k).1.pos)).1==0)=XL then cV n s f (an s k).2 (aK d (an s k).1.text (fq n s (an s k).1.pos)).2
       else(((aK d (an s k).1.text (fq n s (an s k).1.pos)).1,(an s k).1.pos),(aK d (an s k).1.text (fq n s (an s k).1.pos)).2))
    else if(an s k).1.fin=XL then(if de d=XM then((0,0),d) else((7,(an s k).1.pos),d)) else(((an s k).1.rule,(an s k).1.pos),d)
def df(n s:ByteArray)(k:Nat)(d:Db):(Int×Nat)×Db:=cV n s (s.size-k+1) k d
def uT(n s:ByteArray)(q:Int×Nat):on:=if(q.1==0)=XL then cy else(q.1,fq n s q.2)
def GX(s:ByteArray):Prop:=∀k,k<=s.size->aF (an s k).1=XL->((an s k).1.text.toList == [36,91])=XM
theorem nK(h:aF z1=XL):z1=⟨z1.text,0,XM,z1.pos⟩:=by
  obtain⟨t,u,f,p⟩:=z1;simp[aF]at h;rw[h.1,h.2]
theorem lR(h:aF z1=XM)(a:z1.fin=XM):(z1.rule==0)=XM:=by
  simp[aF,a]at h;simpa using h
theorem mb(f k:Nat)(d:Db)(a:k<=b.size)(c:b.size-k+1<=f):cV T b f k d=df T b k d:=by
  unfold df
  suffices h:∀f g k d,k<=b.size->b.size-k+1<=f->b.size-k+1<=g->cV T b f k d=cV T b g k d from h _ _ _ _ a c (PQ _)
  clear c a f k d;intro f
  induction f with
  | zero=>intro g k d _ h;omega
  | succ f j =>
    intro g k d a c l;cases g with
    | zero=>omega
    | succ g =>
      rw[cV,cV];split
      · next h =>
        have e:=dG b k a;have i:=e.2.2 h;split
        · exact j g _ _ e.2.1 (by omega) (by omega)
        · rfl
      · rfl
theorem rN(e:y<=b.size)(a:aF (an b y).1=XL)(d:((aK i (an b y).1.text (fq T b (an b y).1.pos)).1==0)=XL) :
    df T b y i=df T b (an b y).2 (aK i (an b y).1.text (fq T b (an b y).1.pos)).2:=by
  have c:=dG b y e;have f:=c.2.2 a
  conv=>lhs;unfold df
  rw[cV,PZ a,PZ d,mb T b _ _ _ c.2.1 (by omega)]
theorem vF(a:aF (an b y).1=XL)(c:((aK i (an b y).1.text (fq T b (an b y).1.pos)).1==0)=XM) :
    df T b y i=(((aK i (an b y).1.text (fq T b (an b y).1.pos)).1,(an b y).1.pos),(aK i (an b y).1.text (fq T b (an b y).1.pos)).2):=by
  unfold df;rw[cV,PZ a,PV (by simp[c])]
theorem pz(a:aF (an b y).1=XM)(c:(an b y).1.fin=XL)(d:de i=XM):df T b y i=((0,0),i):=by
  unfold df;rw[cV,PV (by simp[a]),PZ c,PZ d]
theorem qq(a:aF (an b y).1=XM)(c:(an b y).1.fin=XL)(d:de i=XL):df T b y i=((7,(an b y).1.pos),i):=by
  unfold df;rw[cV,PV (by simp[a]),PZ c,PV (by simp[d])]
theorem zV(a:aF (an b y).1=XM)(c:(an b y).1.fin=XM):df T b y i=(((an b y).1.rule,(an b y).1.pos),i):=by
  unfold df;rw[cV,PV (by simp[a]),PV (by simp[c])]
theorem Iz(l:GX (PH k y))(f:Nat):∀a e d,a<=(PH k y).size->(PH k y).size-a+1<=f ->
    bh k f y a e d=(uT (bH k y) (PH k y) (df (bH k y) (PH k y) a d).1,e,(df (bH k y) (PH k y) a d).2):=by
  induction f with
  | zero=>intro a e d j o;omega
  | succ f r =>
    intro a e d j o;have m:=dG (PH k y) a j;cases c:aF (an (PH k y) a).1 with
    | true =>
      have p:=m.2.2 c;have q:=l a j c;have g:fa k f y a e d=((if((aK d (an (PH k y) a).1.text (fq (bH k y) (PH k y) (an (PH k y) a).1.pos)).1==0)=XL then cy else((aK d (an (PH k y) a).1.text (fq (bH k y) (PH k y) (an (PH k y) a).1.pos)).1,fq (bH k y) (PH k y) (an (PH k y) a).1.pos),e,(aK d (an (PH k y) a).1.text (fq (bH k y) (PH k y) (an (PH k y) a).1.pos)).2),(an (PH k y) a).2):=by
        unfold fa gW;rw[q];simp
      cases b:((aK d (an (PH k y) a).1.text (fq (bH k y) (PH k y) (an (PH k y) a).1.pos)).1==0) with
      | true =>
        rw[DG k f y a e d c (by rw[g,b];rfl),g,r _ _ _ m.2.1 (by omega),<-rN _ _ a d j c b]
      | false =>
        rw[rI k f y a e d c (by rw[g,b];simpa using b),g,vF _ _ a d c b];simp only[uT,b]
    | false =>
      cases b:(an (PH k y) a).1.fin with
      | true =>
        cases i:de d with
        | false=>rw[wK k f y a e d c b i,pz _ _ a d c b i];rfl
        | true=>rw[sJ k f y a e d c (by simp[i]),qq _ _ a d c b i];simp[uT,fU,b]
      | false =>
        have n:=lR c b;rw[sJ k f y a e d c (by simp[b]),zV _ _ a d c b];simp[uT,fU,b,n]
end Go.Proofs.YtnbalopedcgpcaaGreat

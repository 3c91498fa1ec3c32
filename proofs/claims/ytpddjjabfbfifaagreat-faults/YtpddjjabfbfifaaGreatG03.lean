import Derived.Deep.RegionHeld3
import Derived.BigQuiet
import Derived.Test.YtpddjjabfbfifaaGreatG02
namespace Go.Proofs.YtpddjjabfbfifaaGreat
open Go.RowKit Tryz
set_option maxHeartbeats 0
variable{L:Db}{f I x5 yv v4:Nat}{n z5 y5:World}{zb y3:List Value}{d y0 x7:Nat->Hd}{y2:List St}{yz:Option Nat}{y7:List Nat}{x8:Fs}{xz:List Bool}{x1 x2:ByteArray}{x6:Nat->Bool}{x3:Hd}{yt:List ByteArray}(v k S:Nat)(D:List Value)(z7:Nat)(y8:Fs)(y i H:Nat)(b:Fs)(a:List Value)(w:Db)(yd:ByteArray)(z4:List St)(T:Nat->Hd)(M N:ByteArray)(z6 g:Int)(y1:St)(yr yu:Hd)(y4:List ByteArray)(l:ByteArray)(x:World)(o:List Bool)(y9:Db)(v5 va vb vc:Value)(x4:Nat)(x0:List St)(zt:Nat)(yg:Pl)
def iY(d:Db)(x:ByteArray):Int:=if aJ d.Vf x=false then 18 else if aJ d.U6 x=true then 19 else 0
def iZ(d:Db)(x:ByteArray):Int:=if aJ d.U8 x=false then 17 else 0
def fC(d:Db)(x:ByteArray):Int:=if 1<d.U6.length then 16 else if aJ d.Vf x=false then 18 else if aJ d.Vi x=true then 20 else 0
def fy(d:Db)(x:ByteArray):Int:=if aJ d.U8 x=true then 0 else if aJ d.Vf x=false then 21 else if aJ d.Vi x=false then 22 else 0
def aZ(d:Db)(x:ByteArray):Int :=
 if(d.kind==7)=true then(if aJ d.U6 x=true∨dK d x=true then 13 else 0)
 else if(d.kind==8)=true then(if aJ d.U6 x=true∨dX d x=true then 13 else 0)
 else if(d.kind==1)=true then iY d x
 else if d.U6.length=0 then iZ d x
 else if(d.kind==2)=true then fC d x
 else fy d x
theorem so(h:aR x v k D a w T)(c:D.length=S)(b:fK w 1073741824) :
  Calls prog 256 #[.pointer (some ⟨v,S,none⟩),.string l] x fun e n=>e=.returned (.int .i64 (iY w l))/\n=x:=by
 obtain⟨p,q,r,s,t,u,y,z,A,B,i,j,m⟩:=h.cells S c;have g:=b.U6
 cases d:aJ w.Vf l <;> cases f:aJ w.U6 l
 all_goals
  go_enter func256,ntmps256;go_wp2_with (first | (go_at_call 269;refine(kG v k S D a w T l _ (by exact h) c b.Vf).mono ?_;rintro e o ⟨rfl,rfl⟩) | (go_at_call 253;refine(eN (T 8) w.U6 l _ (by exact h.own 8) b.U6).mono ?_;rintro e o ⟨rfl,rfl⟩));go_ret;exact⟨QN (by simp[iY,d,f]),rfl⟩
theorem su(h:aR x v k D a w T)(b:D.length=S)(c:fK w 1073741824) :
  Calls prog 257 #[.pointer (some ⟨v,S,none⟩),.string l] x fun e m=>e=.returned (.int .i64 (iZ w l))/\m=x:=by
 obtain⟨n,o,p,q,r,s,t,u,y,z,g,i,j⟩:=h.cells S b;have f:=c.U6
 cases d:aJ w.U8 l
 all_goals
  go_enter func257,ntmps257;go_wp2_with (first | (go_at_call 270;refine(mB v k S D a w T l _ (by exact h) b c.U8).mono ?_;rintro e A ⟨rfl,rfl⟩));go_ret;exact⟨QN (by simp[iZ,d]),rfl⟩
theorem ss(h:aR x v k D a w T)(b:D.length=S)(c:fK w 1073741824) :
  Calls prog 258 #[.pointer (some ⟨v,S,none⟩),.string l] x fun e p=>e=.returned (.int .i64 (fC w l))/\p=x:=by
 obtain⟨q,r,s,t,u,y,z,A,B,C,m,n,o⟩:=h.cells S b;have j:=c.U6
 by_cases f:1<w.U6.length
 ·go_enter func258,ntmps258
  go_wp2_with (first | (go_at_call 269;refine(kG v k S D a w T l _ (by exact h) b c.Vf).mono ?_;rintro e d ⟨rfl,rfl⟩) | (go_at_call 271;refine(nf v k S D a w T l _ (by exact h) b c.Vi).mono ?_;rintro e d ⟨rfl,rfl⟩));go_ret;exact⟨QN (by simp[fC,f]),rfl⟩
 ·cases g:aJ w.Vf l <;> cases i:aJ w.Vi l
  all_goals
   go_enter func258,ntmps258;go_wp2_with (first | (go_at_call 269;refine(kG v k S D a w T l _ (by exact h) b c.Vf).mono ?_;rintro e d ⟨rfl,rfl⟩) | (go_at_call 271;refine(nf v k S D a w T l _ (by exact h) b c.Vi).mono ?_;rintro e d ⟨rfl,rfl⟩));go_ret;exact⟨QN (by simp[fC,f,g,i]),rfl⟩
theorem qJ(h:aR x v k D a w T)(b:D.length=S)(c:fK w 1073741824) :
  Calls prog 259 #[.pointer (some ⟨v,S,none⟩),.string l] x fun e p=>e=.returned (.int .i64 (fy w l))/\p=x:=by
 obtain⟨q,r,s,t,u,y,z,A,B,C,m,n,o⟩:=h.cells S b;have j:=c.U6
 cases f:aJ w.U8 l
 ·cases g:aJ w.Vf l <;> cases i:aJ w.Vi l
  all_goals
   go_enter func259,ntmps259;go_wp2_with (first | (go_at_call 270;refine(mB v k S D a w T l _ (by exact h) b c.U8).mono ?_;rintro e d ⟨rfl,rfl⟩) | (go_at_call 269;refine(kG v k S D a w T l _ (by exact h) b c.Vf).mono ?_;rintro e d ⟨rfl,rfl⟩) | (go_at_call 271;refine(nf v k S D a w T l _ (by exact h) b c.Vi).mono ?_;rintro e d ⟨rfl,rfl⟩));go_ret;exact⟨QN (by simp[fy,f,g,i]),rfl⟩
 ·go_enter func259,ntmps259
  go_wp2_with (first | (go_at_call 270;refine(mB v k S D a w T l _ (by exact h) b c.U8).mono ?_;rintro e d ⟨rfl,rfl⟩) | (go_at_call 269;refine(kG v k S D a w T l _ (by exact h) b c.Vf).mono ?_;rintro e d ⟨rfl,rfl⟩) | (go_at_call 271;refine(nf v k S D a w T l _ (by exact h) b c.Vi).mono ?_;rintro e d ⟨rfl,rfl⟩));go_ret;exact⟨QN (by simp[fy,f]),rfl⟩
theorem pd(h:aR x v k D a w T)(d:D.length=S)(b:fK w 1073741824) :
  Calls prog 236 #[.pointer (some ⟨v,S,none⟩),.string l] x fun e y=>e=.returned (.int .i64 (aZ w l))/\y=x:=by
 obtain⟨z,A,B,C,E,F,G,H,I,J,s,t,u⟩:=h.cells S d;have r:=b.U6
 cases i:(w.kind==7)
 ·cases j:(w.kind==8)
  ·cases m:(w.kind==1)
   ·by_cases f:w.U6.length=0
    ·have c:Hid (aZ w l=iZ w l):=by show aZ w l=_;simp only[aZ,i,j,m,f];simp
     have p:((w.U6.length:Int)==0)=true:=by simp[f]
     clear f;go_enter func236,ntmps236;go_wp2_with (first | (go_at_call 257;refine(su v k S D a w T l _ (by exact h) d b).mono ?_;rintro e g ⟨rfl,rfl⟩));go_ret;exact⟨QN (by rw[c.out]),rfl⟩
    ·have p:((w.U6.length:Int)==0)=false:=Rh.2 (by omega)
     cases q:(w.kind==2)
     ·have c:Hid (aZ w l=fy w l):=by show aZ w l=_;simp[aZ,i,j,m,q,f]
      clear f;go_enter func236,ntmps236;go_wp2_with (first | (go_at_call 259;refine(qJ v k S D a w T l _ (by exact h) d b).mono ?_;rintro e g ⟨rfl,rfl⟩));go_ret;exact⟨QN (by rw[c.out]),rfl⟩
     ·have c:Hid (aZ w l=fC w l):=by show aZ w l=_;simp[aZ,i,j,m,q,f]
      clear f;go_enter func236,ntmps236;go_wp2_with (first | (go_at_call 258;refine(ss v k S D a w T l _ (by exact h) d b).mono ?_;rintro e g ⟨rfl,rfl⟩));go_ret;exact⟨QN (by rw[c.out]),rfl⟩
   ·have c:Hid (aZ w l=iY w l):=by show aZ w l=_;simp[aZ,i,j,m]
    go_enter func236,ntmps236;go_wp2_with (first | (go_at_call 256;refine(so v k S D a w T l _ (by exact h) d b).mono ?_;rintro e g ⟨rfl,rfl⟩));go_ret;exact⟨QN (by rw[c.out]),rfl⟩
  ·cases n:aJ w.U6 l <;> cases o:dX w l
   all_goals
    go_enter func236,ntmps236;go_wp2_with (first | (go_at_call 253;refine(eN (T 8) w.U6 l _ (by exact h.own 8) b.U6).mono ?_;rintro e g ⟨rfl,rfl⟩) | (go_at_call 255;refine(Ab v k S D a w T l _ (by exact h) d b).mono ?_;rintro e g ⟨rfl,rfl⟩));go_ret;exact⟨QN (by simp[aZ,i,j,n,o]),rfl⟩
 ·cases n:aJ w.U6 l <;> cases o:dK w l
  all_goals
   go_enter func236,ntmps236;go_wp2_with (first | (go_at_call 253;refine(eN (T 8) w.U6 l _ (by exact h.own 8) b.U6).mono ?_;rintro e g ⟨rfl,rfl⟩) | (go_at_call 254;refine(lQ v k S D a w T l _ (by exact h) d b).mono ?_;rintro e g ⟨rfl,rfl⟩));go_ret;exact⟨QN (by simp[aZ,i,n,o]),rfl⟩
theorem fK.mono{M:Nat}(h:fK L f)(a:f<=M):fK L M :=
 ⟨Q3 h.Ve a,Q3 h.U8 a,Q3 h.U9 a,Q3 h.Vf a,Q3 h.Vi a,Q3 h.blocks a,Q3 h.Vn a,Q3 h.rbl a,Q3 h.U6 a,Q3 h.Vh a⟩
theorem aR.kind(h:aR n f I zb y3 L d)(o:Nat)(b:zb.length=o)(k:Int) :
  Hid (aR (n.setCell ⟨f,o+8,none⟩ (.int .i64 k)) f I zb y3 { L with kind:=k } d/\aA f n d (n.setCell ⟨f,o+8,none⟩ (.int .i64 k)) d) :=
 h.set (d':={ L with kind:=k }) o 8 b (JI L d k) _ (by omega) rfl
theorem aR.lab(h:aR n f I zb y3 L d)(o:Nat)(b:zb.length=o)(k:ByteArray) :
  Hid (aR (n.setCell ⟨f,o+9,none⟩ (.string k)) f I zb y3 { L with label:=k } d/\aA f n d (n.setCell ⟨f,o+9,none⟩ (.string k)) d) :=
 h.set (d':={ L with label:=k }) o 9 b (E8 L d k) _ (by omega) rfl
theorem aR.Va(h:aR n f I zb y3 L d)(o:Nat)(b:zb.length=o)(k:Bool) :
  Hid (aR (n.setCell ⟨f,o+11,none⟩ (.bool k)) f I zb y3 { L with Va:=k } d/\aA f n d (n.setCell ⟨f,o+11,none⟩ (.bool k)) d) :=
 h.set (d':={ L with Va:=k }) o 11 b (Ay L d k) _ (by omega) rfl
theorem aR.forget(h:aR n f I zb y3 L d)(o:Nat)(b:zb.length=o) :
  aR (n.setCell ⟨f,o+10,none⟩ (.slice none 0 0)) f I zb y3 { L with U6:=[] } (g9 d 8 ⟨none,0⟩)/\aA f n d (n.setCell ⟨f,o+10,none⟩ (.slice none 0 0)) (g9 d 8 ⟨none,0⟩) :=
 h.put (d':={ L with U6:=[] }) o 10 b 8 (by omega) ⟨none,0⟩ ⟨by simp[aU,aB,cN],Q1 ⟨by simp[aU,aB],by simp[aU,aB]⟩⟩ (UD _ _) (Q1 rfl) (tq L d []) _ (by omega) (by simp[b9,g9])
theorem aR.noProof(h:aR n f I zb y3 L d)(o:Nat)(b:zb.length=o) :
  aR (n.setCell ⟨f,o+12,none⟩ (.slice none 0 0)) f I zb y3 { L with Vh:=[] } (g9 d 9 ⟨none,0⟩)/\aA f n d (n.setCell ⟨f,o+12,none⟩ (.slice none 0 0)) (g9 d 9 ⟨none,0⟩) :=
 h.put (d':={ L with Vh:=[] }) o 12 b 9 (by omega) ⟨none,0⟩ ⟨by simp[aU,gN,nD],Q1 ⟨by simp[aU,gN],by simp[aU,gN]⟩⟩ (UD _ _) (Q1 rfl) (wZ L d []) _ (by omega) (by simp[b9,g9])
def aH(d:Db)(x:ByteArray):Int×Db :=
 if(x.toList == [36,102])=true then(0,{ d with kind:=2 })
 else if(x.toList == [36,101])=true then(0,{ d with kind:=3 })
 else if(x.toList == [36,97])=true then(0,{ d with kind:=4 })
 else if(x.toList == [36,112])=true then(0,{ d with kind:=5 })
 else(14,d)
def b7(d:Db):Int×Db:=if d.U6.length=0 then(15,d) else(0,{ d with Va:=true })
def bI(d:Db)(x:ByteArray):Int×Db :=
 if dA x=true then(8,d) else if gG x=false then(12,d) else if dK d x=true then(13,d)
 else(0,{ d with Ve:=d.Ve++[x],label:=x,kind:=6 })
def lL(d:Db)(p:Pl):Int×Db :=
 if(d.U6.length:Int)<l5 d then(15,d)
 else if(d.kind==5)=true/\d.Va=false then(23,d)
 else(0,{ aY d p with kind:=0,label:=⟨#[]⟩,U6:=[],Va:=false,Vh:=[] })
def cw(d:Db)(q:Nat×Nat):Db :=
 match d.rbl.getLast? with
 | none=>dq d d.blocks.dropLast q
 | some x=>{ dq d d.blocks.dropLast q with rbl:=d.rbl.dropLast,Vn:=gy d.Vn x }
def av(d:Db)(x:ByteArray):Int×Db :=
 if(x.toList == [36,123])=true then(0,{ d with blocks:=d.blocks++[(d.Vf.length,d.Vi.length)],rbl:=d.rbl++[d.Vn.length] })
 else if(x.toList == [36,125])=true then(match d.blocks.getLast? with | none=>(9,d) | some p=>(0,cw d p))
 else if(x.toList == [36,99])=true then(if 0<d.blocks.length then(10,d) else(0,{ d with kind:=7 }))
 else if(x.toList == [36,118])=true then(0,{ d with kind:=8 })
 else if(x.toList == [36,100])=true then(0,{ d with kind:=1 })
 else if(x.toList == [36,102])=true∨(x.toList == [36,101])=true∨(x.toList == [36,97])=true∨(x.toList == [36,112])=true then(11,d)
 else bI d x
def aX(d:Db)(x:ByteArray)(p:Pl):Int×Db :=
 if(d.kind==0)=true then av d x
 else if(d.kind==6)=true then aH d x
 else if(x.toList == [36,46])=true then lL d p
 else if(x.toList == [36,61])=true/\(d.kind==5)=true/\d.Va=false then b7 d
 else if dA x=true then(8,d)
 else if d.Va=true then(0,{ d with Vh:=d.Vh++[(x,p)] })
 else if(aZ d x==0)=true then(0,{ d with U6:=d.U6++[x] })
 else(aZ d x,d)
set_option maxRecDepth 100000
theorem vg(h:aR x v k D a w T)(m:D.length=S) :
  Calls prog 233 #[.pointer (some ⟨v,S,none⟩),.string l] x fun e o=>e=.returned (.int .i64 (aH w l).1)/\∃n,aR o v k D a (aH w l).2 n/\aA v x T o n:=by
 obtain⟨t,u,y,z,A,B,C,E,F,G,q,r,s⟩:=h.cells S m;have p:=h.free
 cases b:(l.toList == [36,102])
 ·cases d:(l.toList == [36,101])
  ·cases j:(l.toList == [36,97])
   ·cases i:(l.toList == [36,112])
    ·have c:Hid (aH w l=(14,w)):=by show aH w l=_;simp only[aH,b,d,j,i];simp
     go_enter func233,ntmps233;go_wp2;go_ret;exact⟨QN (by rw[c.out]),T,by rw[c.out];exact h,aA.refl _ _ _⟩
    ·have c:Hid (aH w l=(0,{ w with kind:=5 })):=by show aH w l=_;simp only[aH,b,d,j,i];simp
     have f:=h.kind S m 5;go_enter func233,ntmps233;go_wp2;go_ret;exact⟨QN (by rw[c.out]),T,by rw[c.out];exact f.out.1,f.out.2⟩
   ·have c:Hid (aH w l=(0,{ w with kind:=4 })):=by show aH w l=_;simp only[aH,b,d,j];simp
    have f:=h.kind S m 4;go_enter func233,ntmps233;go_wp2;go_ret;exact⟨QN (by rw[c.out]),T,by rw[c.out];exact f.out.1,f.out.2⟩
  ·have c:Hid (aH w l=(0,{ w with kind:=3 })):=by show aH w l=_;simp only[aH,b,d];simp
   have f:=h.kind S m 3;go_enter func233,ntmps233;go_wp2;go_ret;exact⟨QN (by rw[c.out]),T,by rw[c.out];exact f.out.1,f.out.2⟩
 ·have c:Hid (aH w l=(0,{ w with kind:=2 })):=by show aH w l=_;simp only[aH,b];simp
  have f:=h.kind S m 2;go_enter func233,ntmps233;go_wp2;go_ret;exact⟨QN (by rw[c.out]),T,by rw[c.out];exact f.out.1,f.out.2⟩
theorem vL(h:aR x v k D a w T)(i:D.length=S) :
  Calls prog 235 #[.pointer (some ⟨v,S,none⟩)] x fun e j=>e=.returned (.int .i64 (b7 w).1)/\∃f,aR j v k D a (b7 w).2 f/\aA v x T j f:=by
 obtain⟨q,r,s,t,u,y,z,A,B,C,m,n,o⟩:=h.cells S i;have l:=h.free
 by_cases c:w.U6.length=0
 ·have b:Hid (b7 w=(15,w)):=by show b7 w=_;simp only[b7,c];simp
  have d:((w.U6.length:Int)==0)=true:=by simp[c]
  clear c;go_enter func235,ntmps235;go_wp2;go_ret;exact⟨QN (by rw[b.out]),T,by rw[b.out];exact h,aA.refl _ _ _⟩
 ·have b:Hid (b7 w=(0,{ w with Va:=true })):=by show b7 w=_;simp only[b7,c];simp
  have d:((w.U6.length:Int)==0)=false:=Rh.2 (by omega);have g:=h.Va S i true;clear c;go_enter func235,ntmps235;go_wp2;go_ret;exact⟨QN (by rw[b.out]),T,by rw[b.out];exact g.out.1,g.out.2⟩
theorem xV(h:aR x v k D a w T)(d:D.length=S)(i:fK w 100000000)(f:l.size<=1073741824) :
  Calls prog 250 #[.pointer (some ⟨v,S,none⟩),.string l] x fun e J=>e=.returned (.int .i64 (bI w l).1)/\∃r,aR J v k D a (bI w l).2 r/\aA v x T J r:=by
 obtain⟨y,z,A,B,C,E,F,G,H,I,j,m,n⟩:=h.cells S d;have g:=h.free
 cases o:dA l
 ·cases q:gG l
  ·have b:Hid (bI w l=(12,w)):=by show bI w l=_;simp[bI,o,q]
   go_enter func250,ntmps250;go_wp2_with (first | (go_at_call 231;refine(dV l _ f).mono ?_;rintro e c ⟨rfl,rfl⟩) | (go_at_call 263;refine(nc l _ f).mono ?_;rintro e c ⟨rfl,rfl⟩) | (go_at_call 254;refine(lQ v k S D a w T l _ (by exact h) d (i.mono (by omega))).mono ?_;rintro e c ⟨rfl,rfl⟩));go_ret;exact⟨QN (by rw[b.out]),T,by rw[b.out];exact h,aA.refl _ _ _⟩
  ·cases u:dK w l
   ·have b:Hid (bI w l=(0,{ w with Ve:=w.Ve++[l],label:=l,kind:=6 })):=by show bI w l=_;simp[bI,o,q,u]
    have M:=i.Ve;go_enter func250,ntmps250;go_wp2_with (first | (go_at_call 231;refine(dV l _ f).mono ?_;rintro e c ⟨rfl,rfl⟩) | (go_at_call 263;refine(nc l _ f).mono ?_;rintro e c ⟨rfl,rfl⟩) | (go_at_call 254;refine(lQ v k S D a w T l _ (by exact h) d (i.mono (by omega))).mono ?_;rintro e c ⟨rfl,rfl⟩));refine(zA v k S D a w T l _ (by exact h) d (by omega)).mono ?_;rintro e O ⟨rfl,K,p,L⟩;have t:=p.lab S d l;have s:=t.out.1.kind S d 6;clear y z A B C E F G H I j m n g;obtain⟨y,z,A,B,C,E,F,G,H,I,j,m,n⟩:=p.cells S d;have g:=p.free;go_wp2;go_ret;exact⟨QN (by rw[b.out]),K,by rw[b.out];exact s.out.1,L.trans (t.out.2.trans s.out.2)⟩
   ·have b:Hid (bI w l=(13,w)):=by show bI w l=_;simp[bI,o,q,u]
    go_enter func250,ntmps250;go_wp2_with (first | (go_at_call 231;refine(dV l _ f).mono ?_;rintro e c ⟨rfl,rfl⟩) | (go_at_call 263;refine(nc l _ f).mono ?_;rintro e c ⟨rfl,rfl⟩) | (go_at_call 254;refine(lQ v k S D a w T l _ (by exact h) d (i.mono (by omega))).mono ?_;rintro e c ⟨rfl,rfl⟩));go_ret;exact⟨QN (by rw[b.out]),T,by rw[b.out];exact h,aA.refl _ _ _⟩
 ·have b:Hid (bI w l=(8,w)):=by show bI w l=_;simp[bI,o]
  go_enter func250,ntmps250;go_wp2_with (first | (go_at_call 231;refine(dV l _ f).mono ?_;rintro e c ⟨rfl,rfl⟩) | (go_at_call 263;refine(nc l _ f).mono ?_;rintro e c ⟨rfl,rfl⟩) | (go_at_call 254;refine(lQ v k S D a w T l _ (by exact h) d (i.mono (by omega))).mono ?_;rintro e c ⟨rfl,rfl⟩));go_ret;exact⟨QN (by rw[b.out]),T,by rw[b.out];exact h,aA.refl _ _ _⟩
theorem IB:1<=l5 y9:=by unfold l5;split <;> omega
theorem Nl(h:aR x v k D a w T)(b:D.length=S)(Z:fK w 10000000) :
  Calls prog 234 #[.pointer (some ⟨v,S,none⟩),.agg #[.string N,.int .i64 z6,.int .i64 g]] x fun e U=>e=.returned (.int .i64 (lL w ⟨N,z6,g⟩).1)/\∃H,aR U v k D a (lL w ⟨N,z6,g⟩).2 H/\aA v x T U H:=by
 obtain⟨W,p⟩:∃W,W=x.alloc (.cells #[.string N,.int .i64 z6,.int .i64 g] 36):=⟨_,rfl⟩
 have K:ab [] x W:=by rw[p];exact(ab.refl [] _).alloc _
 have d:=h.Vb K;have s:Hid _:=p.symm;have B:W.heap[x.heap.size]?=some (.cells #[.string N,.int .i64 z6,.int .i64 g] 36 (0,0)):=by rw[p];exact QS _ _
 have p0:W.cell? ⟨x.heap.size,0,none⟩=some (.string N):=by rw[aa B];rfl
 have p1:W.cell? ⟨x.heap.size,1,none⟩=some (.int .i64 z6):=by rw[aa B];rfl
 have p2:W.cell? ⟨x.heap.size,2,none⟩=some (.int .i64 g):=by rw[aa B];rfl
 clear p B h;obtain⟨u,y,z,A,C,E,F,G,Q,R,n,c,o⟩:=d.cells S b;clear u y z A C E F G R o;have j:=d.free
 by_cases i:(w.U6.length:Int)<l5 w
 ·have f:Hid (lL w ⟨N,z6,g⟩=(15,w)):=by show lL w ⟨N,z6,g⟩=_;simp only[lL,if_pos i]
  go_enter func234,ntmps234
  go_upto_region 1 with fail
  rw[s.out]
  go_quiet ((go_at_call 251;exact Rd (t7 v k S D a w T _ (d.Vb ((ab.refl [] W).drewN _)) b)))
  go_wp2;go_ret;exact⟨QN (by rw[f.out]),T,by rw[f.out];exact d.Vb ((ab.refl [] _).drewN _),(aA.refl _ _ _).Vb (K.drewN _)⟩
 ·have t:Hid (0<w.U6.length):=by have:=IB w;show 0<_;omega
  by_cases m:(w.kind==5)=true/\w.Va=false
  ·have f:Hid (lL w ⟨N,z6,g⟩=(23,w)):=by show lL w ⟨N,z6,g⟩=_;simp only[lL,if_neg i,if_pos m]
   obtain⟨q,X⟩:=m;rw[X]at c;go_enter func234,ntmps234
   go_upto_region 1 with fail
   rw[s.out]
   go_quiet ((go_at_call 251;exact Rd (t7 v k S D a w T _ (d.Vb ((ab.refl [] W).drewN _)) b)))
   go_wp2;go_ret;exact⟨QN (by rw[f.out]),T,by rw[f.out];exact d.Vb ((ab.refl [] _).drewN _),(aA.refl _ _ _).Vb (K.drewN _)⟩
  ·have f:Hid (lL w ⟨N,z6,g⟩=(0,{ aY w ⟨N,z6,g⟩ with kind:=0,label:=⟨#[]⟩,U6:=[],Va:=false,Vh:=[] })):=by show lL w ⟨N,z6,g⟩=_;simp only[lL,if_neg i,if_neg m]
   have l:(w.kind==5)=true->w.Va=true:=by
    intro q
    cases Y:w.Va with
    | true=>rfl
    | false=>exact absurd ⟨q,Y⟩ m
   cases q:(w.kind==5)
   all_goals
    try rw[l q]at c
    clear l;clear m;go_enter func234,ntmps234
    go_upto_region 1 with fail
    rw[s.out]
    go_quiet ((go_at_call 251;exact Rd (t7 v k S D a w T _ (d.Vb ((ab.refl [] W).drewN _)) b)))
    go_wp2_with fail;refine(Bt v k S D a w T N z6 g _ (by exact d.Vb ((ab.refl [] _).drewN _)) b t.out Z).mono ?_;rintro e w2 ⟨rfl,H2,r,V⟩;have I:=r.kind S b 0;have J:=I.out.1.lab S b ⟨#[]⟩;have L:Hid _:=J.out.1.forget S b;have M:=L.out.1.Va S b false;have O:Hid _:=M.out.1.noProof S b;clear Q n c j p0 p1 p2;obtain⟨u,y,z,A,C,E,F,G,Q,R,n,c,o⟩:=r.cells S b;clear u y z A C E F G;have j:=r.free;go_wp2;go_ret;exact⟨QN (by rw[f.out]),_,by rw[f.out];exact O.out.1,(V.first (K.drewN _)).trans (I.out.2.trans (J.out.2.trans (L.out.2.trans (M.out.2.trans O.out.2))))⟩
theorem rD{α:Type}{l:List α}{p:α}(h:l.getLast?=some p):l=l.dropLast++[p]:=by
 obtain⟨a,rfl⟩:=List.getLast?_eq_some_iff.1 h;simp
structure AY(d:Db)(N:Nat):Prop where
 names:∀p,p∈d.blocks->p.1<=N/\p.2<=N
 same:d.rbl.length=d.blocks.length
 recs:∀x,x∈d.rbl->x<=d.Vn.length
theorem xU(h:aR x v k D a w T)(r:D.length=S)(G:fK w 10000000)(hx:l.size<=1073741824)(K:AY w 100000000) :
  Calls prog 232 #[.pointer (some ⟨v,S,none⟩),.string l] x fun e U=>e=.returned (.int .i64 (av w l).1)/\∃Q,aR U v k D a (av w l).2 Q/\aA v x T U Q:=by
 have i:=G.mono (M:=100000000) (by omega);obtain⟨q0,q1,q2,q3,q4,q5,q6,q7,q8,q9,ad,af,ag⟩:=h.cells S r;have ac:=h.free
 cases b:(l.toList == [36,123])
 ·cases d:(l.toList == [36,125])
  ·cases m:(l.toList == [36,99])
   ·cases g:(l.toList == [36,118])
    ·cases j:(l.toList == [36,100])
     ·cases n:(l.toList == [36,102])
      ·cases q:(l.toList == [36,101])
       ·cases z:(l.toList == [36,97])
        ·cases t:(l.toList == [36,112])
         ·have c:Hid (av w l=bI w l):=by show av w l=_;simp only[av,b,d,m,g,j,n,q,z,t];simp
          go_enter func232,ntmps232;go_wp2_with fail;refine(xV v k S D a w T l _ (by exact h) r i hx).mono ?_;rintro e V ⟨rfl,I,C,E⟩;go_wp2;go_ret;exact⟨QN (by rw[c.out]),I,by rw[c.out];exact C,E⟩
         ·have c:Hid (av w l=(11,w)):=by show av w l=_;simp only[av,b,d,m,g,j,n,q,z,t];simp
          go_enter func232,ntmps232;go_wp2;go_ret;exact⟨QN (by rw[c.out]),T,by rw[c.out];exact h,aA.refl _ _ _⟩
        ·have c:Hid (av w l=(11,w)):=by show av w l=_;simp only[av,b,d,m,g,j,n,q,z];simp
         go_enter func232,ntmps232;go_wp2;go_ret;exact⟨QN (by rw[c.out]),T,by rw[c.out];exact h,aA.refl _ _ _⟩
       ·have c:Hid (av w l=(11,w)):=by show av w l=_;simp only[av,b,d,m,g,j,n,q];simp
        go_enter func232,ntmps232;go_wp2;go_ret;exact⟨QN (by rw[c.out]),T,by rw[c.out];exact h,aA.refl _ _ _⟩
      ·have c:Hid (av w l=(11,w)):=by show av w l=_;simp only[av,b,d,m,g,j,n];simp
       go_enter func232,ntmps232;go_wp2;go_ret;exact⟨QN (by rw[c.out]),T,by rw[c.out];exact h,aA.refl _ _ _⟩
     ·have c:Hid (av w l=(0,{ w with kind:=1 })):=by show av w l=_;simp only[av,b,d,m,g,j];simp
      have s:=h.kind S r 1;go_enter func232,ntmps232;go_wp2;go_ret;exact⟨QN (by rw[c.out]),T,by rw[c.out];exact s.out.1,s.out.2⟩
    ·have c:Hid (av w l=(0,{ w with kind:=8 })):=by show av w l=_;simp only[av,b,d,m,g];simp
     have s:=h.kind S r 8;go_enter func232,ntmps232;go_wp2;go_ret;exact⟨QN (by rw[c.out]),T,by rw[c.out];exact s.out.1,s.out.2⟩
   ·by_cases f:0<w.blocks.length
    ·have c:Hid (av w l=(10,w)):=by show av w l=_;simp only[av,b,d,m,f];simp
     have A:decide (0<w.blocks.length)=true:=by simpa using f
     clear f;go_enter func232,ntmps232;go_wp2_with (go_at_call 207;refine(lP v k S D a w T _ (by exact h) r).mono ?_;rintro e P ⟨rfl,rfl⟩);go_ret;exact⟨QN (by rw[c.out]),T,by rw[c.out];exact h,aA.refl _ _ _⟩
    ·have c:Hid (av w l=(0,{ w with kind:=7 })):=by show av w l=_;simp only[av,b,d,m,f];simp
     have A:decide (0<w.blocks.length)=false:=by simpa using f
     have s:=h.kind S r 7;clear f;go_enter func232,ntmps232;go_wp2_with (go_at_call 207;refine(lP v k S D a w T _ (by exact h) r).mono ?_;rintro e P ⟨rfl,rfl⟩);go_ret;exact⟨QN (by rw[c.out]),T,by rw[c.out];exact s.out.1,s.out.2⟩
  ·rcases hbb:w.blocks.getLast? with _ | p
   ·have f:w.blocks=[]:=by simpa using hbb
    have c:Hid (av w l=(9,w)):=by show av w l=_;simp only[av,b,d,hbb];simp
    have A:decide (0<w.blocks.length)=false:=by rw[f];rfl
    clear hbb f;go_enter func232,ntmps232;go_wp2_with (go_at_call 207;refine(lP v k S D a w T _ (by exact h) r).mono ?_;rintro e P ⟨rfl,rfl⟩);go_ret;exact⟨QN (by rw[c.out]),T,by rw[c.out];exact h,aA.refl _ _ _⟩
   ·have f:w.blocks=w.blocks.dropLast++[p]:=rD hbb
    have c:Hid (av w l=(0,cw w p)):=by show av w l=_;simp only[av,b,d,hbb];simp
    have A:decide (0<w.blocks.length)=true:=by rw[f];simp
    have X:Hid (w.blocks=w.blocks.dropLast++[p]):=f;have hp:=K.names p (by rw[f];simp);have F:w.rbl≠[]:=by intro e;have:=K.same;rw[e,f]at this;simp at this
    obtain⟨y,L⟩:∃y,w.rbl.getLast?=some y:=⟨_,Ta F⟩
    have R:Hid (w.rbl=w.rbl.dropLast++[y]):=rD L;have N:=K.recs y (by rw[R.out];simp);have Y:Hid (cw w p={ dq w w.blocks.dropLast p with rbl:=w.rbl.dropLast,Vn:=gy w.Vn y }):=by show cw w p=_;unfold cw;rw[L]
    have B:Hid (fK (dq w w.blocks.dropLast p) 100000000):=⟨i.Ve,i.U8,i.U9,by have:=i.Vf;simp only[dq,List.length_take];omega,by have:=i.Vi;simp only[dq,List.length_take];omega,by have:=i.blocks;simp only[dq,List.length_dropLast];omega,i.Vn,i.rbl,i.U6,i.Vh⟩;clear hbb f F L;go_enter func232,ntmps232;go_wp2_with (go_at_call 207;refine(lP v k S D a w T _ (by exact h) r).mono ?_;rintro e P ⟨rfl,rfl⟩);refine(zN v k S D a w T w.blocks.dropLast p _ (by exact h) r X.out (i.mono (by omega)) ⟨by omega,by omega⟩).mono ?_;rintro e V ⟨rfl,C,E⟩;go_wp2_with fail;refine(E3 v k S D a (dq w w.blocks.dropLast p) T w.rbl.dropLast y _ (by exact C) r R.out B.out N).mono ?_;rintro e w3 ⟨rfl,H,J⟩;go_wp2;go_ret;exact⟨QN (by rw[c.out]),T,by rw[c.out,Y.out];exact H,E.trans J⟩
 ·have c:Hid (av w l=(0,{ w with blocks:=w.blocks++[(w.Vf.length,w.Vi.length)],rbl:=w.rbl++[w.Vn.length] })):=by show av w l=_;simp only[av,b];simp
  have Z:=i.blocks;have B:Hid (fK { w with blocks:=w.blocks++[(w.Vf.length,w.Vi.length)] } 100000000):=⟨i.Ve,i.U8,i.U9,i.Vf,i.Vi,by have:=G.blocks;simp;omega,i.Vn,i.rbl,i.U6,i.Vh⟩;go_enter func232,ntmps232;go_wp2_with fail;refine(vK v k S D a w T _ (by exact h) r (by omega)).mono ?_;rintro e V ⟨rfl,I,C,E⟩;go_wp2_with fail;refine(Ax v k S D a { w with blocks:=w.blocks++[(w.Vf.length,w.Vi.length)] } I _ (by exact C) r B.out).mono ?_;rintro e w3 ⟨rfl,W,H,J⟩;go_wp2;go_ret;exact⟨QN (by rw[c.out]),W,by rw[c.out];exact H,E.trans J⟩
theorem Ic(h:(l.toList == [36,61])=true):dA l=true:=by
 have:l=⟨#[36,61]⟩:=ym (by rw[ByteArray.toList_mk [36,61]];simpa using h);rw[this];decide +kernel
theorem JF(l:List (ByteArray×Pl))(p:ByteArray×Pl):(⟨(gN l).e,(gN l).size,(gN l).n+1,(gN l).xs++qZ p⟩:dN)=gN (l++[p]):=by
 simp[gN,nD]
def im(b t o:Nat)(pre post:List Value)(d:Db)(H:Nat->Hd)(x f:ByteArray)(l c:Int)(w:World):Prop :=
 Calls prog 206 #[.pointer (some ⟨b,o,none⟩),.string x,.agg #[.string f,.int .i64 l,.int .i64 c]] w fun e w'=>e=.returned (.int .i64 (aX d x ⟨f,l,c⟩).1)/\∃H',aR w' b t pre post (aX d x ⟨f,l,c⟩).2 H'/\aA b w H w' H'
theorem boxed(h:aR n f I zb y3 L d)(a:ByteArray)(l c:Int) :
  ∃W,Hid (n.alloc (.cells #[.string a,.int .i64 l,.int .i64 c] 36)=W)/\ab [] n W/\aR W f I zb y3 L d/\W.cell? ⟨n.heap.size,0,none⟩=some (.string a)/\W.cell? ⟨n.heap.size,1,none⟩=some (.int .i64 l)/\W.cell? ⟨n.heap.size,2,none⟩=some (.int .i64 c):=by
 have B:(n.alloc (.cells #[.string a,.int .i64 l,.int .i64 c] 36)).heap[n.heap.size]?=some (.cells #[.string a,.int .i64 l,.int .i64 c] 36 (0,0)):=QS _ _;refine⟨_,rfl,(ab.refl [] _).alloc _,h.Vb ((ab.refl [] _).alloc _),?_,?_,?_⟩ <;> rw[aa B] <;> rfl
theorem Da(h:aR x v k D a w T)(t:D.length=S)(p:fK w 10000000)(X:M.size<=1073741824)(J:(w.kind==0)=false)(Y:(w.kind==6)=false)(l:(M.toList == [36,46])=false)(m:(M.toList == [36,61])=false)(R:dA M=false)(F:w.Va=false) :
  im v k S D a w T M N z6 g x:=by
 unfold im;have U:=p.mono (M:=1073741824) (by omega);obtain⟨W,Q,K,d,p0,p1,p2⟩:=boxed h N z6 g;clear h;obtain⟨q0,q1,q2,q3,q4,q5,q6,q7,q8,q9,L,r,O⟩:=d.cells S t;clear q0 q1 q2 q3 q4 q5 q6 q7 q9 O;have C:=d.free;rw[F]at r
 cases A:(aZ w M==0)
 ·have f:Hid (aX w M ⟨N,z6,g⟩=(aZ w M,w)):=by show aX w M ⟨N,z6,g⟩=_;simp[aX,J,Y,l,m,R,F,A]
  go_enter func206,ntmps206
  go_upto_region 1 with fail
  rw[Q.out];go_wp2_with (first | (go_at_call 231;refine(dV M _ X).mono ?_;rintro e y ⟨rfl,rfl⟩) | (go_at_call 236;refine(pd v k S D a w T M _ (by exact d) t U).mono ?_;rintro e y ⟨rfl,rfl⟩));go_ret;exact⟨QN (by rw[f.out]),T,by rw[f.out];exact d,(aA.refl _ _ _).Vb K⟩
 ·have f:Hid (aX w M ⟨N,z6,g⟩=(0,{ w with U6:=w.U6++[M] })):=by show aX w M ⟨N,z6,g⟩=_;simp[aX,J,Y,l,m,R,F,A]
  have B:Hid (aZ w M=0):=(show aZ w M=0 by simpa using A);have af:=p.U6;obtain⟨i0,E,G,H,I⟩:=Re js;have z:=d.Vb ((ab.refl [] W).alloc (.cells #[.string M] 9));have c:=z.own 8;have ad:=d.lt;go_enter func206,ntmps206
  go_upto_region 1 with fail
  rw[Q.out];go_wp2_with (first | (go_at_call 231;refine(dV M _ X).mono ?_;rintro e y ⟨rfl,rfl⟩) | (go_at_call 236;refine(pd v k S D a w T M _ (by exact d) t U).mono ?_;rintro e y ⟨rfl,rfl⟩) | (at_builtin;refine aM _ rfl (.tmp 74) (.tmp 76) 61 rfl i0 (.string ⟨#[]⟩) 16 (T 8) (aB w.U6) underlying61 E G H I rfl Rc rfl (by exact c) ⟨_,0,none⟩ 1 1 [.string M] rfl rfl ?c1 ?c2 Rc ?c3 ?c4 ?_))
  case c1=>intro j u s;match j,s with | 0,s=>simp at s;subst s;simp[Addr.add]
  case c2=>intro u V;simp at V;subst V;rfl
  case c3=>simp only[aB];unfold maxLen;omega
  case c4=>simp only[aB];omega
  intro ac i y q o b;obtain⟨J,f0,P⟩:=z.app (d':={ w with U6:=w.U6++[M] }) S 10 t 8 (by omega) ac i ((aB w.U6).n+1) _ q (dr w.U6 M) o (by simpa using b) (tq w T _) (by omega) _ rfl (by simp[b9,g9,aB]);clear z c q8 L r q o b C;go_wp2;go_ret;exact⟨QN (by rw[f.out,B.out]),_,by rw[f.out];exact P.out.1,P.out.2.first (K.alloc _)⟩
theorem xW(h:aR x v k D a w T)(C:D.length=S)(p:fK w 10000000)(U:M.size<=1073741824)(X:(w.kind==0)=false)(Y:(w.kind==6)=false)(l:(M.toList == [36,46])=false)(m:(M.toList == [36,61])=false)(L:dA M=false)(E:w.Va=true) :
  im v k S D a w T M N z6 g x:=by
 unfold im;obtain⟨W,G,K,i,p0,p1,p2⟩:=boxed h N z6 g;clear h;obtain⟨Z,q1,q2,q3,q4,q5,q6,q7,q8,q9,t,y,ac⟩:=i.cells S C;clear Z q1 q2 q3 q4 q5 q6 q7 q9 t;have O:=i.free;rw[E]at y;have A:Hid (aX w M ⟨N,z6,g⟩=(0,{ w with Vh:=w.Vh++[(M,⟨N,z6,g⟩)] })):=by show aX w M ⟨N,z6,g⟩=_;simp[aX,X,Y,l,m,L,E]
 have R:=p.Vh;obtain⟨V,o,q,r,s⟩:=Re OC;have J:=i.lt;have B:Hid (aR (W.alloc (.cells #[.string M,.string N,.int .i64 z6,.int .i64 g] 229)).drew v k D a w T):=i.Vb ((ab.refl [] W).alloc _).drew
 have s2:Hid (∀j u,(qZ (M,⟨N,z6,g⟩))[j]?=some u->(W.alloc (.cells #[.string M,.string N,.int .i64 z6,.int .i64 g] 229)).drew.cell? ((⟨W.heap.size,0,none⟩:Addr).add j)=some u):=by
  intro j u P;have Q:(W.alloc (.cells #[.string M,.string N,.int .i64 z6,.int .i64 g] 229)).drew.heap[W.heap.size]?=some (.cells #[.string M,.string N,.int .i64 z6,.int .i64 g] 229 (0,0)):=QS _ _;rw[bL,aa Q];simpa [qZ] using P
 have s3:Hid (∀u∈qZ (M,⟨N,z6,g⟩),u.oneCell'=true):=by
  intro u F;simp only[qZ,List.mem_cons,List.not_mem_nil,or_false]at F
  rcases F with rfl | rfl | rfl | rfl <;> rfl
 have s4:Hid ((gN w.Vh).n+1<=maxLen):=by show _<=_;simp only[gN];unfold maxLen;omega
 have s5:Hid (((gN w.Vh).n+1)*48<=140737488355328):=by show _<=_;simp only[gN];omega
 go_enter func206,ntmps206
 go_upto_region 1 with fail
 rw[G.out];go_wp2_with (go_at_call 231;refine(dV M _ U).mono ?_;rintro e w1 ⟨rfl,rfl⟩)
 go_region_law (refine cd rfl (.tmp 57) (.tmp 61) 156 rfl V (.agg #[.string ⟨#[]⟩,.string ⟨#[]⟩,.int .i64 0,.int .i64 0]) 48 (T 9) (gN w.Vh) underlying156 o q r s rfl (Uz 3) (by simp[Act.eval] <;> rfl) (B.out.own 9) ⟨_,0,none⟩ 1 1 (qZ (M,⟨N,z6,g⟩)) (by simp[Act.eval] <;> rfl) rfl s2.out s3.out Rc s4.out s5.out ?_;intro I c w1 f d b;obtain⟨k5,f5,z⟩:=B.out.app (d':={ w with Vh:=w.Vh++[(M,⟨N,z6,g⟩)] }) S 12 C 9 (by omega) I c ((gN w.Vh).n+1) _ f (JF w.Vh (M,⟨N,z6,g⟩)) d (by simpa using b) (wZ w T _) (by omega) _ rfl (by simp[b9,g9,gN]);clear f d b)
 all_goals go_wp2
 all_goals go_ret
 all_goals exact⟨QN (by rw[A.out]),_,by rw[A.out];exact z.out.1,z.out.2.first (K.trans ((ab.refl [] _).alloc _).drew)⟩
theorem Fr(h:aR x v k D a w T)(r:D.length=S)(s:M.size<=1073741824)(m:(w.kind==0)=false)(n:(w.kind==6)=false)(c:(M.toList == [36,46])=false)(f:(M.toList == [36,61])=true) :
  im v k S D a w T M N z6 g x:=by
 unfold im;obtain⟨W,l,K,d,P,Q,R⟩:=boxed h N z6 g;clear h;obtain⟨B,C,E,F,G,H,I,J,U,L,o,i,p⟩:=d.cells S r;clear B C E F G H I J L o p;have A:=d.free;have q:=Ic M f
 cases t:(w.kind==5)
 ·have b:Hid (aX w M ⟨N,z6,g⟩=(8,w)):=by show aX w M ⟨N,z6,g⟩=_;simp[aX,m,n,c,t,q]
  go_enter func206,ntmps206
  go_upto_region 1 with fail
  rw[l.out];go_wp2_with (go_at_call 231;refine(dV M _ s).mono ?_;rintro e O ⟨rfl,rfl⟩);go_ret;exact⟨QN (by rw[b.out]),T,by rw[b.out];exact d,(aA.refl _ _ _).Vb K⟩
 ·cases j:w.Va
  ·have b:Hid (aX w M ⟨N,z6,g⟩=b7 w):=by show aX w M ⟨N,z6,g⟩=_;simp only[aX,m,n,c,f,t,j];simp
   rw[j]at i;go_enter func206,ntmps206
   go_upto_region 1 with fail
   rw[l.out];go_wp2_with fail;refine(vL v k S D a w T _ (by exact d) r).mono ?_;rintro e V ⟨rfl,y,u,z⟩;go_wp2;go_ret;exact⟨QN (by rw[b.out]),y,by rw[b.out];exact u,z.first K⟩
  ·have b:Hid (aX w M ⟨N,z6,g⟩=(8,w)):=by show aX w M ⟨N,z6,g⟩=_;simp[aX,m,n,c,j,q]
   rw[j]at i;go_enter func206,ntmps206
   go_upto_region 1 with fail
   rw[l.out];go_wp2_with (go_at_call 231;refine(dV M _ s).mono ?_;rintro e O ⟨rfl,rfl⟩);go_ret;exact⟨QN (by rw[b.out]),T,by rw[b.out];exact d,(aA.refl _ _ _).Vb K⟩
theorem MD(h:aR x v k D a w T)(l:D.length=S)(I:fK w 10000000)(G:M.size<=1073741824)(H:AY w 100000000) :
  im v k S D a w T M N z6 g x:=by
 cases o:(w.kind==0)
 ·cases B:(w.kind==6)
  ·cases j:(M.toList == [36,46])
   ·cases m:(M.toList == [36,61])
    ·cases J:dA M
     ·cases R:w.Va
      ·exact Da v k S D a w T M N z6 g x h l I G o B j m J R
      ·exact xW v k S D a w T M N z6 g x h l I G o B j m J R
     ·unfold im
      obtain⟨W,n,K,f,L,O,P⟩:=boxed h N z6 g;clear h H;obtain⟨p,q,r,s,t,u,y,z,Q,A,b,d,c⟩:=f.cells S l;clear p q r s t u y z A b c;have i:Hid (aX w M ⟨N,z6,g⟩=(8,w)):=by show aX w M ⟨N,z6,g⟩=_;simp[aX,o,B,j,m,J]
      go_enter func206,ntmps206
      go_upto_region 1 with fail
      rw[n.out];go_wp2_with (go_at_call 231;refine(dV M _ G).mono ?_;rintro e V ⟨rfl,rfl⟩);go_ret;exact⟨QN (by rw[i.out]),T,by rw[i.out];exact f,(aA.refl _ _ _).Vb K⟩
    ·exact Fr v k S D a w T M N z6 g x h l G o B j m
   ·unfold im
    obtain⟨W,n,K,f,L,O,P⟩:=boxed h N z6 g;clear h H;obtain⟨p,q,r,s,t,u,y,z,Q,A,b,d,c⟩:=f.cells S l;clear p q r s t u y z A b d c;have i:Hid (aX w M ⟨N,z6,g⟩=lL w ⟨N,z6,g⟩):=by show aX w M ⟨N,z6,g⟩=_;simp only[aX,o,B,j];simp
    go_enter func206,ntmps206
    go_upto_region 1 with fail
    rw[n.out];go_wp2_with fail;refine(Nl v k S D a w T N z6 g _ (by exact f) l I).mono ?_;rintro e U ⟨rfl,E,C,F⟩;go_wp2;go_ret;exact⟨QN (by rw[i.out]),E,by rw[i.out];exact C,F.first K⟩
  ·unfold im
   obtain⟨W,n,K,f,L,O,P⟩:=boxed h N z6 g;clear h H;obtain⟨p,q,r,s,t,u,y,z,Q,A,b,d,c⟩:=f.cells S l;clear p q r s t u y z A b d c;have i:Hid (aX w M ⟨N,z6,g⟩=aH w M):=by show aX w M ⟨N,z6,g⟩=_;simp only[aX,o,B];simp
   go_enter func206,ntmps206
   go_upto_region 1 with fail
   rw[n.out];go_wp2_with fail;refine(vg v k S D a w T M _ (by exact f) l).mono ?_;rintro e U ⟨rfl,E,C,F⟩;go_wp2;go_ret;exact⟨QN (by rw[i.out]),E,by rw[i.out];exact C,F.first K⟩
 ·unfold im
  obtain⟨W,n,K,f,L,O,P⟩:=boxed h N z6 g;clear h;obtain⟨p,q,r,s,t,u,y,z,Q,A,b,d,c⟩:=f.cells S l;clear p q r s t u y z A b d c;have i:Hid (aX w M ⟨N,z6,g⟩=av w M):=by show aX w M ⟨N,z6,g⟩=_;simp only[aX,o];simp
  go_enter func206,ntmps206
  go_upto_region 1 with fail
  rw[n.out];go_wp2_with fail;refine(xU v k S D a w T M _ (by exact f) l I G H).mono ?_;rintro e U ⟨rfl,E,C,F⟩;go_wp2;go_ret;exact⟨QN (by rw[i.out]),E,by rw[i.out];exact C,F.first K⟩
def fm:Db:=⟨[],[],[],[],[],[],[],[],0,⟨#[]⟩,[],false,[]⟩
abbrev pA:=Int×Pl
def cY:pA:=(0,⟨⟨#[]⟩,0,0⟩)
def gU(f:pA):Value:=.agg #[.int .i64 f.1,.string f.2.file,.int .i64 f.2.line,.int .i64 f.2.col]
def kK(n s:ByteArray)(p:Nat):Pl:=⟨n,aP s p,bm s p⟩
def iK(n s:ByteArray)(i:rT):pA:=(if i.fin=true then 7 else i.rule,kK n s i.pos)
abbrev FP:=pA×List Bool×Db
def rx(fs:Fs)(x z:Nat)(p:Pl)(d:Db):pA ⊕ (Nat×Nat) :=
  if kp d=true then .inl (4,p)
  else if aI (ay (ak fs x) z).1=false then .inl (iK (aE fs x) (ak fs x) (ay (ak fs x) z).1)
  else if dA (ay (ak fs x) z).1.text=true then .inl (5,kK (aE fs x) (ak fs x) (ay (ak fs x) z).1.pos)
  else if bF fs (ay (ak fs x) z).1.text<0 then .inl (6,kK (aE fs x) (ak fs x) (ay (ak fs x) z).1.pos)
  else if aI (ay (ak fs x) (ay (ak fs x) z).2).1=false then .inl (iK (aE fs x) (ak fs x) (ay (ak fs x) (ay (ak fs x) z).2).1)
  else if((ay (ak fs x) (ay (ak fs x) z).2).1.text.toList == [36,93])=false then .inl (5,kK (aE fs x) (ak fs x) (ay (ak fs x) (ay (ak fs x) z).2).1.pos)
  else .inr ((bF fs (ay (ak fs x) z).1.text).toNat,(ay (ak fs x) (ay (ak fs x) z).2).2)
def mX(rf:Nat->List Bool->Db->FP)(fs:Fs)(x z:Nat)(p:Pl)(bg:List Bool)(d:Db):FP×Nat :=
  match rx fs x z p d with
  | .inl f=>((f,bg,d),z)
  | .inr (j,z')=>(rf j bg d,z')
def jN(rf:Nat->List Bool->Db->FP)(fs:Fs)(x z:Nat)(t:ByteArray)(p:Pl)(bg:List Bool)(d:Db):FP×Nat :=
  if(t.toList == [36,91])=true then mX rf fs x z p bg d
  else((if((aX d t p).1==0)=true then cY else((aX d t p).1,p),bg,(aX d t p).2),z)
def bq(fs:Fs):Nat->Nat->Nat->List Bool->Db->FP
  | 0,_,_,bg,d=>(cY,bg,d)
  | f+1,x,k,bg,d =>
    if aI (ay (ak fs x) k).1=true then
      (if((jN (fun j bg d=>if bg.getD j true=true then(cY,bg,d) else bq fs f j 0 (bg.set j true) d) fs x (ay (ak fs x) k).2 (ay (ak fs x) k).1.text (kK (aE fs x) (ak fs x) (ay (ak fs x) k).1.pos) bg d).1.1.1==0)=true
       then bq fs f x (jN (fun j bg d=>if bg.getD j true=true then(cY,bg,d) else bq fs f j 0 (bg.set j true) d) fs x (ay (ak fs x) k).2 (ay (ak fs x) k).1.text (kK (aE fs x) (ak fs x) (ay (ak fs x) k).1.pos) bg d).2
          (jN (fun j bg d=>if bg.getD j true=true then(cY,bg,d) else bq fs f j 0 (bg.set j true) d) fs x (ay (ak fs x) k).2 (ay (ak fs x) k).1.text (kK (aE fs x) (ak fs x) (ay (ak fs x) k).1.pos) bg d).1.2.1
          (jN (fun j bg d=>if bg.getD j true=true then(cY,bg,d) else bq fs f j 0 (bg.set j true) d) fs x (ay (ak fs x) k).2 (ay (ak fs x) k).1.text (kK (aE fs x) (ak fs x) (ay (ak fs x) k).1.pos) bg d).1.2.2
       else(jN (fun j bg d=>if bg.getD j true=true then(cY,bg,d) else bq fs f j 0 (bg.set j true) d) fs x (ay (ak fs x) k).2 (ay (ak fs x) k).1.text (kK (aE fs x) (ak fs x) (ay (ak fs x) k).1.pos) bg d).1)
    else if(ay (ak fs x) k).1.fin=true/\kp d=false then(cY,bg,d) else(iK (aE fs x) (ak fs x) (ay (ak fs x) k).1,bg,d)
def cn(fs:Fs)(f:Nat)(j:Nat)(bg:List Bool)(d:Db):FP :=
  if bg.getD j true=true then(cY,bg,d) else bq fs f j 0 (bg.set j true) d
def fZ(fs:Fs)(f x k:Nat)(bg:List Bool)(d:Db):FP×Nat :=
  jN (cn fs f) fs x (ay (ak fs x) k).2 (ay (ak fs x) k).1.text (kK (aE fs x) (ak fs x) (ay (ak fs x) k).1.pos) bg d
theorem yD(a:aI (ay (ak y8 i) H).1=true)(b:((fZ y8 y i H o y9).1.1.1==0)=true) :
    bq y8 (y+1) i H o y9=bq y8 y i (fZ y8 y i H o y9).2 (fZ y8 y i H o y9).1.2.1 (fZ y8 y i H o y9).1.2.2:=by
  rw[bq,QW a];exact QW b
theorem ox(a:aI (ay (ak y8 i) H).1=true)(b:((fZ y8 y i H o y9).1.1.1==0)=false) :
    bq y8 (y+1) i H o y9=(fZ y8 y i H o y9).1:=by
  rw[bq,QW a];exact QT (fun c=>Bool.noConfusion (b.symm.trans c))
theorem zW(a:aI (ay (ak y8 i) H).1=false)(b:(ay (ak y8 i) H).1.fin=true)(c:kp y9=false) :
    bq y8 (y+1) i H o y9=(cY,o,y9):=by
  rw[bq,QT (by simp[a]),QW ⟨b,c⟩]
theorem wk(a:aI (ay (ak y8 i) H).1=false)(b:¬((ay (ak y8 i) H).1.fin=true/\kp y9=false)) :
    bq y8 (y+1) i H o y9=(iK (aE y8 i) (ak y8 i) (ay (ak y8 i) H).1,o,y9):=by
  rw[bq,QT (by simp[a]),QT b]
theorem km{i:rT}(h:aI i=false)(a:i.fin=false):(i.rule==0)=false:=by
  simp[aI,a]at h;simpa using h
structure nE(d:Db)(m:Nat):Prop where
  Ve:d.Ve.length<=m
  U8:d.U8.length+d.U6.length<=m
  U9:d.U9.length+d.U6.length<=m
  Vf:d.Vf.length+d.U6.length<=m
  Vi:d.Vi.length+d.U6.length<=m
  blocks:d.blocks.length<=m
  Vn:d.Vn.length<=m
  Vh:d.Vh.length<=m
  inner:∀p,p∈d.blocks->p.1<=m/\p.2<=m
  same:d.rbl.length=d.blocks.length
  recs:∀x,x∈d.rbl->x<=d.Vn.length
theorem nE.small{N:Nat}(h:nE L f)(b:f<=N):fK L N/\AY L N :=
  ⟨⟨by have:=h.Ve;omega,by have:=h.U8;omega,by have:=h.U9;omega,by have:=h.Vf;omega,by have:=h.Vi;omega,by have:=h.blocks;omega,by have:=h.Vn;omega,by have:=h.blocks;have:=h.same;omega,by have:=h.U8;omega,by have:=h.Vh;omega⟩,
   ⟨fun p a=>by have:=h.inner p a;omega,h.same,h.recs⟩⟩
theorem nE.mono{m':Nat}(h:nE L f)(b:f<=m'):nE L m' :=
  ⟨by have:=h.Ve;omega,by have:=h.U8;omega,by have:=h.U9;omega,by have:=h.Vf;omega,by have:=h.Vi;omega,by have:=h.blocks;omega,by have:=h.Vn;omega,by have:=h.Vh;omega,fun p a=>by have:=h.inner p a;omega,h.same,h.recs⟩
theorem nE.empty:nE fm 0:=by
  refine⟨?_,?_,?_,?_,?_,?_,?_,?_,?_,?_,?_⟩ <;> simp[fm]
theorem nE.plain(h:nE L f)(k:Int)(l:ByteArray)(b:Bool):nE { L with kind:=k,label:=l,Va:=b } f:=⟨h.Ve,h.U8,h.U9,h.Vf,h.Vi,h.blocks,h.Vn,h.Vh,h.inner,h.same,h.recs⟩
theorem vY:(gy x0 zt).length=x0.length:=jg x0 zt x0.length
theorem nE.declare(h:nE L f)(p:Pl):nE { aY L p with kind:=0,label:=⟨#[]⟩,U6:=[],Va:=false,Vh:=[] } (f+1):=by
  have d:=h.U8;have e:=h.U9;have g:=h.Vf;have i:=h.Vi;have a:=h.mono (TO f);unfold aY
  split
  · exact⟨a.Ve,by simp;omega,by simp;omega,by simp;omega,by simp;omega,a.blocks,a.Vn,by simp,a.inner,a.same,a.recs⟩
  · split
    · have:=Dl L.U9 (L.U6.take L.U6.length)
      simp only[List.take_length]at this;exact⟨a.Ve,by simp[dO];omega,by simp[dO];omega,by simp[dO];omega,by simp[dO];omega,a.blocks,a.Vn,by simp,a.inner,a.same,a.recs⟩
    · unfold mO mY
      have:=h.Vn
      split
      · next j=>exact⟨a.Ve,by simp;omega,by simp;omega,by simp;omega,by simp;omega,a.blocks,by simp;omega,by simp,a.inner,a.same,fun x b=>by have:=h.recs x b;simp;omega⟩
      · exact⟨a.Ve,by simp;omega,by simp;omega,by simp;omega,by simp;omega,a.blocks,by simp;omega,by simp,a.inner,a.same,fun x b=>by have:=h.recs x b;simp;omega⟩
theorem nE.take(h:nE L f)(x:ByteArray)(o:Pl):nE (aX L x o).2 (f+1):=by
  have a:=h.mono (TO f);have b:=fun k=>a.plain k L.label L.Va
  have r:=h.Ve;have s:=h.U8;have t:=h.U9;have u:=h.Vf;have v:=h.Vi;have w:=h.blocks
  have l:nE (bI L x).2 (f+1):=by
    unfold bI
    split
    · exact a
    · split
      · exact a
      · split
        · exact a
        · exact⟨by simp;omega,a.U8,a.U9,a.Vf,a.Vi,a.blocks,a.Vn,a.Vh,a.inner,a.same,a.recs⟩
  have j:nE (aH L x).2 (f+1):=by
    unfold aH
    split
    · exact b 2
    · split
      · exact b 3
      · split
        · exact b 4
        · split
          · exact b 5
          · exact a
  have i:nE (av L x).2 (f+1):=by
    unfold av
    split
    · refine⟨a.Ve,a.U8,a.U9,a.Vf,a.Vi,by simp;omega,a.Vn,a.Vh,?_,by simp[h.same],?_⟩
      · intro p c
        simp only[List.mem_append,List.mem_singleton]at c
        rcases c with c | rfl
        · exact a.inner p c
        · simp only;omega
      · intro y d
        simp only[List.mem_append,List.mem_singleton]at d
        rcases d with d | rfl
        · exact h.recs y d
        · exact QR _
    · split
      · split
        · exact a
        · next p c =>
          unfold cw
          have n:L.rbl≠[]:=by
            intro e;have:=h.same;rw[e,rD c]at this;simp at this
          obtain⟨y,d⟩:∃y,L.rbl.getLast?=some y:=⟨_,Ta n⟩
          rw[d];refine⟨a.Ve,a.U8,a.U9,?_,?_,?_,?_,a.Vh,?_,?_,?_⟩
          · simp only[dq,List.length_take];omega
          · simp only[dq,List.length_take];omega
          · simp only[dq,List.length_dropLast];omega
          · show(gy L.Vn y).length<=_;rw[vY];exact a.Vn
          · intro q m
            simp only[dq]at m;exact a.inner q (TP _ m)
          · simp only[dq,List.length_dropLast,h.same]
          · intro q m
            show q<=(gy L.Vn y).length
            rw[vY];exact h.recs q (TP _ m)
      · split
        · split
          · exact a
          · exact b 7
        · split
          · exact b 8
          · split
            · exact b 1
            · split
              · exact a
              · exact l
  have g:nE (lL L o).2 (f+1):=by
    unfold lL
    split
    · exact a
    · split
      · exact a
      · exact h.declare o
  unfold aX
  split
  · exact i
  · split
    · exact j
    · split
      · exact g
      · split
        · unfold b7
          split
          · exact a
          · exact a.plain L.kind L.label true
        · split
          · exact a
          · split
            · exact⟨a.Ve,a.U8,a.U9,a.Vf,a.Vi,a.blocks,a.Vn,by have:=h.Vh;simp;omega,a.inner,a.same,a.recs⟩
            · split
              · exact⟨a.Ve,by simp;omega,by simp;omega,by simp;omega,by simp;omega,a.blocks,a.Vn,a.Vh,a.inner,a.same,a.recs⟩
              · exact a
def MX(fs:Fs)(bg:List Bool)(j:Nat):Nat:=if bg.getD j true=true then 0 else(ak fs j).size+2
def dP(fs:Fs)(bg:List Bool):Nat:=MX fs bg 0+MX fs bg 1+MX fs bg 2+MX fs bg 3
theorem wG(f:o.length=4)(e:o.getD zt true=false):dP b (o.set zt true)+(ak b zt).size+2=dP b o:=by
  match o,f with
  | [a,b,c,d],_ =>
    match zt with
    | 0=>simp at e;subst e;simp[dP,MX];omega
    | 1=>simp at e;subst e;simp[dP,MX];omega
    | 2=>simp at e;subst e;simp[dP,MX];omega
    | 3=>simp at e;subst e;simp[dP,MX];omega
    | zt+4=>simp at e
def Qo(fs:Fs)(bg:List Bool)(m:Nat)(r:FP):Prop :=
  r.2.1.length=4/\dP fs r.2.1<=dP fs bg/\∃m',nE r.2.2 m'/\m'+dP fs r.2.1<=m+dP fs bg
theorem C7(n:∀j a d m,a.length=4->nE d m->Qo b a m (cn b zt j a d))(x k:Nat)(a:List Bool)(d:Db)(m:Nat)(p:k<=(ak b x).size)(l:a.length=4)(h:nE d m)(q:aI (ay (ak b x) k).1=true) :
    Qo b a (m+1) (fZ b zt x k a d).1/\k<(fZ b zt x k a d).2/\(fZ b zt x k a d).2<=(ak b x).size:=by
  have f:=fG (ak b x) k p;have e:=f.2.2 q;unfold fZ jN
  split
  · unfold mX
    split
    · exact⟨⟨l,QR _,m,h,by simp only;omega⟩,e,f.2.1⟩
    · next j w c =>
      have g:=n j a d m l h;refine⟨⟨g.1,g.2.1,?_⟩,?_⟩
      · obtain⟨s,t,v⟩:=g.2.2;exact⟨s,t,by simp only;omega⟩
      · unfold rx at c
        have r:=fG (ak b x) (ay (ak b x) k).2 f.2.1;have u:=fG (ak b x) (ay (ak b x) (ay (ak b x) k).2).2 r.2.1
        repeat' split at c
        all_goals first | (cases c;done) | skip
        injection c with c
        injection c with o i
        subst i;omega
  · exact⟨⟨l,QR _,m+1,h.take _ _,by simp only;omega⟩,e,f.2.1⟩
theorem Ll(f:Nat):(∀x k a d m,k<=(ak b x).size->a.length=4->nE d m->(bq b f x k a d).2.1.length=4/\dP b (bq b f x k a d).2.1<=dP b a/\∃e,nE (bq b f x k a d).2.2 e/\e+dP b (bq b f x k a d).2.1<=m+((ak b x).size-k)+dP b a) /\
    (∀j a d m,a.length=4->nE d m->Qo b a m (cn b f j a d)):=by
  have c:∀f,(∀x k a d m,k<=(ak b x).size->a.length=4->nE d m->(bq b f x k a d).2.1.length=4/\dP b (bq b f x k a d).2.1<=dP b a/\∃e,nE (bq b f x k a d).2.2 e/\e+dP b (bq b f x k a d).2.1<=m+((ak b x).size-k)+dP b a) ->
      (∀j a d m,a.length=4->nE d m->Qo b a m (cn b f j a d)):=by
    intro f h j a d m g i;unfold cn
    split
    · exact⟨g,QR _,m,i,QR _⟩
    · next w =>
      have o:a.getD j true=false:=by simpa using w
      have F:=wG b a j g o;have:=h j 0 (a.set j true) d m (Ro _) (by simpa using g) i;refine⟨this.1,by omega,?_⟩;obtain⟨e,z,G⟩:=this.2.2;exact⟨e,z,by omega⟩
  induction f with
  | zero =>
    have p:∀x k a d m,k<=(ak b x).size->a.length=4->nE d m->(bq b 0 x k a d).2.1.length=4/\dP b (bq b 0 x k a d).2.1<=dP b a/\∃e,nE (bq b 0 x k a d).2.2 e/\e+dP b (bq b 0 x k a d).2.1<=m+((ak b x).size-k)+dP b a:=by
      intro x k a d m r g i;exact⟨g,QR _,m,i,by simp only[bq];omega⟩
    exact⟨p,c 0 p⟩
  | succ f s =>
    have q:∀x k a d m,k<=(ak b x).size->a.length=4->nE d m->(bq b (f+1) x k a d).2.1.length=4/\dP b (bq b (f+1) x k a d).2.1<=dP b a/\∃e,nE (bq b (f+1) x k a d).2.2 e/\e+dP b (bq b (f+1) x k a d).2.1<=m+((ak b x).size-k)+dP b a:=by
      intro x k a d m r g i
      cases n:aI (ay (ak b x) k).1 with
      | true =>
        have E:=C7 b f s.2 x k a d m r g i n;obtain⟨⟨u,C,t,v,J⟩,K,D⟩:=E
        cases l:((fZ b f x k a d).1.1.1==0) with
        | true =>
          rw[yD b f x k a d n l];obtain⟨A,H,y,B,I⟩:=s.1 x (fZ b f x k a d).2 (fZ b f x k a d).1.2.1 (fZ b f x k a d).1.2.2 t D u v;exact⟨A,by omega,y,B,by omega⟩
        | false =>
          rw[ox b f x k a d n l];exact⟨u,C,t,v,by omega⟩
      | false =>
        by_cases l:(ay (ak b x) k).1.fin=true/\kp d=false
        · rw[zW b f x k a d n l.1 l.2];exact⟨g,QR _,m,i,by simp only;omega⟩
        · rw[wk b f x k a d n l];exact⟨g,QR _,m,i,by simp only;omega⟩
    exact⟨q,c (f+1) q⟩
theorem xI(k:Nat)(a:l.size<=1024):(aW l k).1.text.size<=1024:=by
  unfold aW;generalize l.size-k+1=f
  induction f generalizing k with
  | zero=>simp[bX,ByteArray.size]
  | succ f b =>
    rw[bX]
    split
    · split
      · simp[ByteArray.size]
      · exact b _
    · split
      · simp[ByteArray.size]
      · exact qx l k a
theorem rF(k:Nat)(a:l.size<=1024):(ay l k).1.text.size<=1024:=by
  unfold ay;generalize l.size-k+1=f
  induction f generalizing k with
  | zero=>simp[dH,ByteArray.size]
  | succ f b =>
    rw[dH]
    split
    · split
      · exact b _
      · exact xI l _ a
    · exact qx l k a
theorem Ft:(aX w l yg).2.Vh=w.Vh∨(aX w l yg).2.Vh=[]∨(aX w l yg).2.Vh=w.Vh++[(l,yg)]:=by
 unfold aX
 split
 ·left
  unfold av
  split
  ·rfl
  ·split
   ·split
    ·rfl
    ·unfold cw;split <;> rfl
   ·split
    ·split <;> rfl
    ·split
     ·rfl
     ·split
      ·rfl
      ·split
       ·rfl
       ·unfold bI
        repeat' split
        all_goals rfl
 ·split
  ·left;unfold aH
   repeat' split
   all_goals rfl
  ·split
   ·unfold lL
    split
    ·left;rfl
    ·split
     ·left;rfl
     ·right;left;rfl
   ·split
    ·left;unfold b7;split <;> rfl
    ·split
     ·left;rfl
     ·split
      ·right;right;rfl
      ·split
       ·left;rfl
       ·left;rfl
theorem Dd:(aX w l yg).2.Vn=w.Vn∨(∃y∈w.rbl,(aX w l yg).2.Vn=gy w.Vn y)∨((aX w l yg).2.Vn=w.Vn++[⟨w.kind,w.label,w.U6,w.Vh,yg,0⟩]/\0<w.U6.length):=by
 unfold aX
 split
 ·unfold av
  split
  ·left;rfl
  ·split
   ·split
    ·left;rfl
    ·unfold cw
     split
     ·left;rfl
     ·next y c=>right;left;exact⟨y,List.mem_of_getLast? c,rfl⟩
   ·split
    ·split <;> (left;rfl)
    ·split
     ·left;rfl
     ·split
      ·left;rfl
      ·split
       ·left;rfl
       ·left;unfold bI
        repeat' split
        all_goals rfl
 ·split
  ·left;unfold aH
   repeat' split
   all_goals rfl
  ·split
   ·unfold lL
    split
    ·left;rfl
    ·next b =>
     have a:0<w.U6.length:=by
      unfold l5 at b
      split at b <;> omega
     split
     ·left;rfl
     ·unfold aY
      split
      ·left;rfl
      ·split
       ·left;rfl
       ·right;right
        refine⟨?_,a⟩;unfold mO
        split <;> rfl
   ·split
    ·left;unfold b7;split <;> rfl
    ·split
     ·left;rfl
     ·split
      ·left;rfl
      ·split
       ·left;rfl
       ·left;rfl
theorem MH:(aX w l yg).2.rbl=w.rbl∨(aX w l yg).2.rbl=w.rbl.dropLast∨(aX w l yg).2.rbl=w.rbl++[w.Vn.length]:=by
 unfold aX
 split
 ·unfold av
  split
  ·right;right;rfl
  ·split
   ·split
    ·left;rfl
    ·unfold cw
     split
     ·left;rfl
     ·right;left;rfl
   ·split
    ·split <;> (left;rfl)
    ·split
     ·left;rfl
     ·split
      ·left;rfl
      ·split
       ·left;rfl
       ·left;unfold bI
        repeat' split
        all_goals rfl
 ·left
  split
  ·unfold aH
   repeat' split
   all_goals rfl
  ·split
   ·unfold lL
    split
    ·rfl
    ·split
     ·rfl
     ·unfold aY
      split
      ·rfl
      ·split
       ·rfl
       ·unfold mO;split <;> rfl
   ·split
    ·unfold b7;split <;> rfl
    ·split
     ·rfl
     ·split
      ·rfl
      ·split <;> rfl
structure PJ(S:List St)(d:Db):Prop where
 pre:∃m,d.Vn=S++m
 rbl:∀y∈d.rbl,S.length<=y
theorem DW(h:z4.length<=zt):∃b,gy (z4++x0) zt=z4++b:=by
 refine⟨(gy (z4++x0) zt).drop z4.length,?_⟩
 have e:(gy (z4++x0) zt).take z4.length=z4:=by
  apply Sq
  intro i;rw[Tj]
  split
  ·next a =>
   unfold gy fD;rw[List.getElem?_mapIdx,Q7 a,QP a];rw[UU,QT (by omega)]
  ·rw[Rx];omega
 conv=>lhs;rw[<-Ul z4.length (gy (z4++x0) zt),e]
theorem PJ.take(h:PJ y2 L)(x:ByteArray)(p:Pl):PJ y2 (aX L x p).2:=by
 obtain⟨m,b⟩:=h.pre;refine⟨?_,?_⟩
 ·rcases Dd L x p with e | ⟨y,a,e⟩ | ⟨e,_⟩
  ·exact⟨m,by rw[e,b]⟩
  ·rw[e,b];exact DW y2 m y (h.rbl y a)
  ·exact⟨m++[_],by rw[e,b,Sy]⟩
 ·rcases MH L x p with e | e | e
  ·rw[e];exact h.rbl
  ·rw[e];intro y a;exact h.rbl y (TP _ a)
  ·rw[e]
   intro y a
   rcases Rr.1 a with a | a
   ·exact h.rbl y a
   ·rw[Q9.1 a,b,Q0];omega
theorem PJ.begin(h:nE L f)(a:kp L=false):PJ L.Vn L:=by
 refine⟨⟨[],by simp⟩,fun y c=>?_⟩;have b:=h.same
 have d:L.blocks.length=0:=by
  unfold kp at a;simp only[Bool.or_eq_false_iff,decide_eq_false_iff_not]at a;omega
 rw[d]at b;rw[Rk b]at c
 cases c
structure Rw where
 label:ByteArray
 Vc:Int
 why:Int
 at_:Pl
def mL(r:Rw):List Value:=[.string r.label,.int .i64 r.Vc,.int .i64 r.why,.string r.at_.file,.int .i64 r.at_.line,.int .i64 r.at_.col]
def kL(l:List Rw):List Value:=l.flatMap mL
def kT:Pl:=⟨⟨#[]⟩,0,0⟩
def qd:Rw:=⟨⟨#[]⟩,0,0,kT⟩
theorem Qa:(prog.info? 38).map (fun i=>(i.zero,i.size,i.bytes))=some (some (.agg #[.string ⟨#[]⟩,.int .i64 0,.int .i64 0,.string ⟨#[]⟩,.int .i64 0,.int .i64 0]),6,64):=by kernel_rfl
theorem CZ(l:List Rw):(kL l).length=l.length*6:=by
 induction l with
 | nil=>rfl
 | cons x r a =>
  have e:kL (x :: r)=mL x++kL r:=rfl;rw[e,Q0,a];simp[mL];omega
theorem GJ(l:List Rw)(k:Nat)(a:k<l.length)(j:Nat)(d:j<6):(kL l)[k*6+j]?=(mL l[k])[j]?:=by
 induction l generalizing k with
 | nil=>simp at a
 | cons s r c =>
  have e:kL (s :: r)=mL s++kL r:=rfl;rw[e]
  cases k with
  | zero=>rw[Q7 (by simp[mL];omega)];simp
  | succ k =>
   rw[Q5 (by simp[mL];omega)];have b:(k+1)*6+j-(mL s).length=k*6+j:=by simp[mL];omega
   rw[b,c k (by simpa using a)];rfl
def Ko(p:Pl):Prop:=-1000000000<=p.line/\p.line<=1000000000
def pC(w:World):Option Nat->List Rw->Prop
 | none,L=>L=[]
 | some g,L=>0<L.length/\w.heap[g]?=some (.cells (kL L).toArray 38 (0,0))
theorem pC.kept{L:List Rw}(h:pC n yz L)(k:ab y7 n z5)(a:∀g,yz=some g->g∉y7):pC z5 yz L:=by
 cases yz with
 | none=>exact h
 | some g=>exact⟨h.1,k.get h.2 (a g rfl)⟩
theorem pC.Vb{L:List Rw}(h:pC n yz L)(k:ab [] n z5):pC z5 yz L:=h.kept k (by simp)
theorem pC.lt{L:List Rw}(h:pC n yz L)(g:Nat)(e:yz=some g):g<n.heap.size:=by
 subst e;exact ae h.2
structure QA(L:List Rw):Prop where
 len:L.length<=100000
 line:∀r∈L,Ko r.at_
set_option maxRecDepth 512
theorem na(c:Int)(f:Bool)(w:World) :
  Calls prog 159 #[.agg #[.string M,.int .i64 z6,.bool f,.string N,.int .i64 g,.int .i64 c]] w fun e a=>e=.returned (.agg #[.int .i64 (if f=true then 7 else z6),.string N,.int .i64 g,.int .i64 c])/\ab [] w a:=by
 cases f
 ·go_enter func159,ntmps159
  go_wp2;exact QY (v:=.agg #[.int .i64 z6,.string N,.int .i64 g,.int .i64 c]) (by simp[results,results159,go_sem]) rfl ⟨rfl,((ab.refl _ _).alloc _).alloc _⟩
 ·go_enter func159,ntmps159
  go_wp2;exact QY (v:=.agg #[.int .i64 7,.string N,.int .i64 g,.int .i64 c]) (by simp[results,results159,go_sem]) rfl ⟨rfl,((ab.refl _ _).alloc _).alloc _⟩
def dM(v:Nat)(bg:List Bool):List Value:=.pointer (some ⟨v,0,none⟩) :: bg.map Value.bool
theorem jl(h:o.length=4):(dM H o).length=5:=by simp[dM,h]
theorem aR.pre(h:aR n f I zb y3 L d)(i:Nat)(b:i<zb.length)(u:Value) :
  aR (n.setCell ⟨f,i,none⟩ u) f I (zb.set i u) y3 L d/\aA f n d (n.setCell ⟨f,i,none⟩ u) d:=by
 refine⟨⟨?_,?_,h.apart,h.off⟩,(eK.refl _ _).setCell (Q1 (Q1 rfl)) _,fun _ a=>Q1 a⟩
 ·rw[ah h.blk,Ru,TM _ _ b]
 ·intro j
  refine(h.own j).Vg (fun k a=>Q4 _ _ _ _ ?_);rintro rfl;exact h.off j a
theorem aR.preCell(h:aR n f I zb y3 L d)(i:Nat)(a:i<zb.length):n.cell? ⟨f,i,none⟩=zb[i]?:=by
 rw[aa h.blk];simp[List.getElem?_append_left a]
def fJ(b sp:Nat)(w:World)(H:Nat->Hd)(w':World)(H':Nat->Hd):Prop :=
 eK (fun k=>k=b∨k=sp∨f9 H k) w w'/\∀k,f9 H' k->f9 H k∨w.heap.size<=k
theorem aA.Vg{w':World}(t:aA f n d w' y0):fJ f zt n d w' y0 :=
 ⟨⟨t.1.os,t.1.tape,t.1.output,t.1.size,fun k a b=>t.1.block k a (fun e=>b (e.elim Q1 (fun e=>QV (QV e))))⟩,t.2⟩
theorem fJ.trans{w1:World}(a:fJ f I n d w1 y0)(c:fJ f I w1 y0 z5 x7):fJ f I n d z5 x7:=by
 refine⟨⟨c.1.os.trans a.1.os,c.1.tape.trans a.1.tape,c.1.output.trans a.1.output,Q3 a.1.size c.1.size,?_⟩,?_⟩
 ·intro k b g
  rw[<-a.1.block k b g];refine c.1.block k (QX b a.1.size) ?_;rintro (e | e | i)
  ·exact g (Q1 e)
  ·exact g (QV (Q1 e))
  ·rcases a.2 k i with h | h
   ·exact g (QV (QV h))
   ·omega
 ·intro k b
  rcases c.2 k b with h | h
  ·exact a.2 k h
  ·exact QV (Q3 a.1.size h)
theorem fJ.refl(a:Nat->Hd):fJ i H x a x a:=⟨eK.refl _ _,fun _ b=>Q1 b⟩
theorem fJ.Vb(a:fJ f I n d z5 y0)(c:ab [] z5 y5):fJ f I n d y5 y0 :=
 a.trans ⟨c.toP (by simp),fun _ b=>Q1 b⟩
theorem fJ.first(c:ab [] n z5)(a:fJ f I z5 d y5 y0):fJ f I n d y5 y0 :=
 fJ.trans ⟨c.toP (by simp),fun _ b=>Q1 b⟩ a
theorem fJ.scan(a:fJ f I n d z5 y0)(c:ab [I] z5 y5):fJ f I n d y5 y0 :=
 a.trans ⟨c.toP (by intro k b _;simp at b;exact QV (Q1 b)),fun _ b=>Q1 b⟩
theorem fJ.beyond(T:fJ f I n d z5 y0)(k:ab y7 z5 y5)(b:∀x,x∈y7->n.heap.size<=x):fJ f I n d y5 y0 :=
 ⟨⟨k.os.trans T.1.os,k.tape.trans T.1.tape,k.output.trans T.1.output,Q3 T.1.size k.size,fun i a e=>by
  rw[<-T.1.block i a e];exact k.block i (QX a T.1.size) (fun c=>by have:=b i c;omega)⟩,T.2⟩
theorem fJ.fresh(T:fJ f I n d z5 y0)(F:Nat)(c:F<n.heap.size)(a:¬f9 d F):¬f9 y0 F:=by
 intro b
 rcases T.2 F b with h | h
 ·exact a h
 ·omega
theorem aA.fresh(T:aA f n d z5 y0)(F:Nat)(c:F<n.heap.size)(a:¬f9 d F):¬f9 y0 F:=by
 intro b
 rcases T.2 F b with h | h
 ·exact a h
 ·omega
theorem ji{w:World}{r:Nat}:ab [r] w ((((w.setCell ⟨r,0,none⟩ v5).setCell ⟨r,1,none⟩ va).setCell ⟨r,2,none⟩ vb).setCell ⟨r,3,none⟩ vc) :=
 ((((ab.refl _ _).setCell (Q1 (by simp)) _).setCell (Q1 (by simp)) _).setCell (Q1 (by simp)) _).setCell (Q1 (by simp)) _
theorem Fc(a b:Value):ab [f] n ((((((n.setCell ⟨f,0,none⟩ v5).setCell ⟨f,1,none⟩ va).setCell ⟨f,2,none⟩ vb).setCell ⟨f,3,none⟩ vc).setCell ⟨f,4,none⟩ a).setCell ⟨f,5,none⟩ b) :=
 ((((((ab.refl _ _).setCell (Q1 (by simp)) _).setCell (Q1 (by simp)) _).setCell (Q1 (by simp)) _).setCell (Q1 (by simp)) _).setCell (Q1 (by simp)) _).setCell (Q1 (by simp)) _
def bA:Array Value:=#[.int .i64 0,.string ⟨#[]⟩,.int .i64 0,.int .i64 0]
theorem b8(h:n.heap[f]?=some (.cells bA 87 (0,0))) :
  n.cell? ⟨f,0,none⟩=some (.int .i64 0)/\n.cell? ⟨f,1,none⟩=some (.string ⟨#[]⟩)/\n.cell? ⟨f,2,none⟩=some (.int .i64 0)/\n.cell? ⟨f,3,none⟩=some (.int .i64 0):=by
 refine⟨?_,?_,?_,?_⟩ <;> (rw[aa h];rfl)
theorem nN{F:Nat}(D:aR z5 f I zb y3 L y0)(T:aA f n d z5 y0)(a:n.heap.size<=F)(h:f≠F)(i:¬f9 y0 F)(b c e g:Value) :
  aR ((((z5.setCell ⟨F,0,none⟩ b).setCell ⟨F,1,none⟩ c).setCell ⟨F,2,none⟩ e).setCell ⟨F,3,none⟩ g) f I zb y3 L y0 /\
  aA f n d ((((z5.setCell ⟨F,0,none⟩ b).setCell ⟨F,1,none⟩ c).setCell ⟨F,2,none⟩ e).setCell ⟨F,3,none⟩ g) y0:=by
 refine⟨D.kept (ji _ _ _ _) (by simpa using h) (fun x j=>by simp;rintro rfl;exact i j),?_,T.2⟩;exact(((T.1.setCell (QV a) _).setCell (QV a) _).setCell (QV a) _).setCell (QV a) _
set_option maxRecDepth 100000
theorem ue(E:o.length=4)(d:Db)(p:Nat->Hd)(sp:Value)(x n:ByteArray)(l c:Int)(w:World)(h:aR w y i (dM H o) [] d p)(hs:fK d 10000000)(hx:x.size<=1073741824)(hi:AY d 100000000)(hn:(x.toList == [36,91])=false) :
  Calls prog 157 #[.pointer (some ⟨y,0,none⟩),sp,.agg #[.string x,.int .i64 0,.bool false,.string n,.int .i64 l,.int .i64 c]] w fun e g =>
   e=.returned (gU (if((aX d x ⟨n,l,c⟩).1==0)=true then cY else((aX d x ⟨n,l,c⟩).1,⟨n,l,c⟩))) /\
   ∃O,aR g y i (dM H o) [] (aX d x ⟨n,l,c⟩).2 O/\aA y w p g O:=by
 have ac:=h.lt;have C:=fun(g:World) (h':aR g y i (dM H o) [] d p)=>MD y i 5 (dM H o) [] d p x n l c g h' (jl H o E) hs hx hi
 unfold im at C;have t:Hid _:=C;clear C;generalize aX d x ⟨n,l,c⟩=td at *;obtain⟨r,Z⟩:=td;simp only at t;obtain⟨W,B⟩:∃W,W=((w.alloc (.cells #[.string x,.int .i64 0,.bool false,.string n,.int .i64 l,.int .i64 c] 255)).alloc (.cells #[.int .i64 0,.string ⟨#[]⟩,.int .i64 0,.int .i64 0] 87)):=⟨_,rfl⟩
 have R:ab [] w W:=by rw[B];exact((ab.refl [] w).alloc _).alloc _
 have P:aR W y i (dM H o) [] d p:=h.Vb R
 have A:W.heap[w.heap.size]?=some (.cells #[.string x,.int .i64 0,.bool false,.string n,.int .i64 l,.int .i64 c] 255 (0,0)):=by
  rw[B];exact((ab.refl [] _).alloc _).get (QS _ _) (by simp)
 have Q:W.heap[w.heap.size+1]?=some (.cells bA 87 (0,0)):=by
  rw[B];have:=QS (w.alloc (.cells #[.string x,.int .i64 0,.bool false,.string n,.int .i64 l,.int .i64 c] 255)) (.cells #[.int .i64 0,.string ⟨#[]⟩,.int .i64 0,.int .i64 0] 87);simpa [bA] using this
 have s:Hid (∀k,w.heap.size<=k->¬(k=y∨f9 p k)):=by
  rintro k hk (e | G)
  ·omega
  ·have:=h.inlt G;omega
 have T:Hid _:=B.symm;clear B h;have i0:W.cell? ⟨w.heap.size,0,none⟩=some (.string x):=by rw[aa A];rfl
 have i3:W.cell? ⟨w.heap.size,3,none⟩=some (.string n):=by rw[aa A];rfl
 have i4:W.cell? ⟨w.heap.size,4,none⟩=some (.int .i64 l):=by rw[aa A];rfl
 have i5:W.cell? ⟨w.heap.size,5,none⟩=some (.int .i64 c):=by rw[aa A];rfl
 have v:=(show Hid _ from fun(a:World) (b:Nat->Hd) (u:aR a y i (dM H o) [] Z b) (f:aA y W.drew p a b) (U V X Y:Value) =>
  nN u ((f.first (ab.refl [] W).drew).first R) (F:=w.heap.size+1) (by omega) (by omega) (f.fresh (w.heap.size+1) (by exact ae Q) (fun G=>s.out (w.heap.size+1) (by omega) (QV G))) U V X Y)
 have q:Hid _:=fun(a:World) (b:Nat->Hd) (f:aA y W.drew p a b)=>(show _/\_ from⟨f.1.get (by exact A) (s.out _ (QR _)),f.1.get (by exact Q) (s.out _ (by omega))⟩)
 have N:∀(a:World) (b:Nat->Hd) (_:aA y W.drew p a b),a.cell? ⟨w.heap.size,0,none⟩=some (.string x)/\a.cell? ⟨w.heap.size,3,none⟩=some (.string n)/\a.cell? ⟨w.heap.size,4,none⟩=some (.int .i64 l)/\a.cell? ⟨w.heap.size,5,none⟩=some (.int .i64 c):=by
  intro a b f;have D:=(q.out a b f).1;refine⟨?_,?_,?_,?_⟩ <;> (rw[aa D];rfl)
 have z:Hid _:=N;clear N;go_enter func157,ntmps157
 go_upto_region 1 with fail
 rw[T.out]
 go_upto_region 3 with fail
 cases S:(r==0)
 ·have I:(r != 0)=true:=by simp[bne,S]
  go_region_held3 (fun g=>g.cell? ⟨w.heap.size,0,none⟩=some (.string x)/\g.cell? ⟨w.heap.size,3,none⟩=some (.string n)/\g.cell? ⟨w.heap.size,4,none⟩=some (.int .i64 l)/\g.cell? ⟨w.heap.size,5,none⟩=some (.int .i64 c)) (go_keep) (first | (go_at_call 206;refine(t.out _ (by exact P.Vb (ab.refl [] _).drew)).mono ?_;rintro e a ⟨rfl,b,u,f⟩;obtain⟨r0,r3,r4,r5⟩:=z.out a b f))
  all_goals
   have m:=(q.out a b f).2;have j:Hid _:=v.out a b u f;obtain⟨J,K,L,M⟩:=b8 m;have ad:=am m;go_wp2
   exact QY (v:=.agg #[.int .i64 r,.string n,.int .i64 l,.int .i64 c]) (by simp[results,results157,go_sem,J,K,L,M]) rfl
    ⟨rfl,b,(j.out _ _ _ _).1,(j.out _ _ _ _).2⟩
 ·have I:(r != 0)=false:=by simp[bne,S]
  go_region_held3 (fun g=>g.cell? ⟨w.heap.size,0,none⟩=some (.string x)/\g.cell? ⟨w.heap.size,3,none⟩=some (.string n)/\g.cell? ⟨w.heap.size,4,none⟩=some (.int .i64 l)/\g.cell? ⟨w.heap.size,5,none⟩=some (.int .i64 c)) (go_keep) (first | (go_at_call 206;refine(t.out _ (by exact P.Vb (ab.refl [] _).drew)).mono ?_;rintro e a ⟨rfl,b,u,f⟩;obtain⟨r0,r3,r4,r5⟩:=z.out a b f))
  all_goals
   have m:=(q.out a b f).2;have j:Hid _:=v.out a b u f;obtain⟨J,K,L,M⟩:=b8 m;have ad:=am m;go_wp2
   exact QY (v:=.agg #[.int .i64 0,.string ⟨#[]⟩,.int .i64 0,.int .i64 0]) (by simp[results,results157,go_sem,J,K,L,M]) rfl
    ⟨rfl,b,(j.out _ _ _ _).1,(j.out _ _ _ _).2⟩
def jD(b v:Nat)(fs:Fs)(f j:Nat)(bg:List Bool)(d:Db)(H:Nat->Hd)(w:World):Prop :=
 Calls prog 111 #[.pointer (some ⟨b,0,none⟩),.int .i64 j] w fun e w'=>e=.returned (gU (cn fs f j bg d).1)/\∃H',aR w' b 200 (dM v (cn fs f j bg d).2.1) [] (cn fs f j bg d).2.2 H'/\aA b w H w' H'
theorem ki{F:Nat}(D:aR z5 f I zb y3 L y0)(T:fJ f x5 n d z5 y0)(g:n.heap.size<=F)(h:f≠F)(i:¬f9 y0 F)(a b c e:Value) :
  aR ((((z5.setCell ⟨F,0,none⟩ a).setCell ⟨F,1,none⟩ b).setCell ⟨F,2,none⟩ c).setCell ⟨F,3,none⟩ e) f I zb y3 L y0 /\
  fJ f x5 n d ((((z5.setCell ⟨F,0,none⟩ a).setCell ⟨F,1,none⟩ b).setCell ⟨F,2,none⟩ c).setCell ⟨F,3,none⟩ e) y0 :=
 ⟨D.kept (ji _ _ _ _) (by simpa using h) (fun x j=>by simp;rintro rfl;exact i j),T.beyond (ji _ _ _ _) (by simpa using g)⟩
theorem qQ(f:Bool)(p:Nat):gU (iK yd M ⟨N,g,f,p⟩)=.agg #[.int .i64 (if f=true then 7 else g),.string yd,.int .i64 (aP M p),.int .i64 (bm M p)]:=rfl
structure rS(w w':World)(b v tt sp z:Nat)(fs:Fs)(more:List Value)(bg:List Bool)(d:Db)(H:Nat->Hd)(n s:ByteArray):Prop where
 D:aR w' b 200 (dM v bg) [] d H
 TB:bi w' v tt fs more
 SC:bV w' sp n s z
 F:w'.heap[w.heap.size+1]?=some (.cells bA 87 (0,0))
 M:fJ b sp w H w' H
theorem rS.Vb(S:rS n z5 f I x5 yv v4 x8 zb xz L d x1 x2)(k:ab [] z5 y5):rS n y5 f I x5 yv v4 x8 zb xz L d x1 x2 :=
 ⟨S.D.Vb k,S.TB.kept k (by simp),S.SC.kept k (by simp),k.get S.F (by simp),S.M.Vb k⟩
theorem rS.next{a:Nat}(S:rS n z5 f I x5 yv v4 x8 zb xz L d x1 x2)(k:ab [yv] z5 y5)(b:bV y5 yv x1 x2 a)(c:yv≠f)(g:I≠yv)(h:¬f9 d yv)(j:yv<n.heap.size):rS n y5 f I x5 yv a x8 zb xz L d x1 x2 :=
 ⟨S.D.kept k (by simpa using fun e=>c e.symm) (by intro x i;simp;rintro rfl;exact h i),S.TB.kept k (by simpa using g),b,k.get S.F (by simp;omega),S.M.scan k⟩
theorem Cd(ba:o.length=4)(d:Db)(z:Nat->Hd)(n s:ByteArray)(l c:Int)(w:World)(h:aR w v 200 (dM k o) [] d z)(hn:aE b i=n)(bw:ak b i=s)(hs:s.size<=1024)(hz:H<=s.size)(ap:bV w z7 n s H)(ht:bi w k S b a)(V:z7≠v)(bj:k≠z7)(ar:¬f9 z z7)(RF:Hid (∀(j:Nat) (w':World),j<b.length->aR w' v 200 (dM k o) [] d z->bi w' k S b a->jD v k b y j o d z w')) :
  Calls prog 205 #[.pointer (some ⟨v,0,none⟩),.pointer (some ⟨z7,0,none⟩),.agg #[.string n,.int .i64 l,.int .i64 c]] w fun e w' =>
   e=.returned (gU (mX (cn b y) b i H ⟨n,l,c⟩ o d).1.1)/\∃H',aR w' v 200 (dM k (mX (cn b y) b i H ⟨n,l,c⟩ o d).1.2.1) [] (mX (cn b y) b i H ⟨n,l,c⟩ o d).1.2.2 H'/\fJ v z7 w z w' H' /\
    (((mX (cn b y) b i H ⟨n,l,c⟩ o d).1.1.1==0)=true->bV w' z7 n s (mX (cn b y) b i H ⟨n,l,c⟩ o d).2):=by
 obtain⟨W,hW⟩:∃W,W=((w.alloc (.cells #[.string n,.int .i64 l,.int .i64 c] 36)).alloc (.cells #[.int .i64 0,.string ⟨#[]⟩,.int .i64 0,.int .i64 0] 87)):=⟨_,rfl⟩
 have hK:ab [] w W:=by rw[hW];exact((ab.refl [] w).alloc _).alloc _
 have cb:=h.lt;have ai:=ae ap;have cc:=ht.lt;have D:aR W v 200 (dM k o) [] d z:=h.Vb hK;have SC:bV W z7 n s H:=ap.kept hK (by simp);have TB:bi W k S b a:=ht.kept hK (by simp)
 have hP:W.heap[w.heap.size]?=some (.cells #[.string n,.int .i64 l,.int .i64 c] 36 (0,0)):=by
  rw[hW];exact((ab.refl [] _).alloc _).get (QS _ _) (by simp)
 have hF:W.heap[w.heap.size+1]?=some (.cells bA 87 (0,0)):=by
  rw[hW];have:=QS (w.alloc (.cells #[.string n,.int .i64 l,.int .i64 c] 36)) (.cells #[.int .i64 0,.string ⟨#[]⟩,.int .i64 0,.int .i64 0] 87);simpa [bA] using this
 have B:Hid (∀bT,w.heap.size<=bT->¬f9 z bT):=fun bT hk hm=>by have:=h.inlt hm;omega
 have HW:Hid _:=hW.symm;have b5:=ae hF;have MK:Hid (fJ v z7 w z W z):=(fJ.refl v z7 w z).Vb hK;clear hW h ap ht;have I:Hid (mX (cn b y) b i H ⟨n,l,c⟩ o d=match rx b i H ⟨n,l,c⟩ d with | .inl q=>((q,o,d),H) | .inr (j,z')=>(cn b y j o d,z')):=rfl;have A:Hid (rx b i H ⟨n,l,c⟩ d=_):=(show rx b i H ⟨n,l,c⟩ d=_ from by unfold rx;rw[hn,bw])
 cases ho:kp d
 ·have ax:=fG s H hz
  have b1:=rF s H hs;have bk:=fG s (ay s H).2 ax.2.1;have bd:=pI (ay s H).1.text b;generalize hr1:ay s H=r1 at *;obtain⟨⟨X,u1,f1,E⟩,z1⟩:=r1;simp only at ax b1 bk bd A;have b2:=rF s z1 hs;generalize hr2:ay s z1=r2 at *;obtain⟨⟨t2,u2,f2,P⟩,z2⟩:=r2;simp only at bk b2 A;rw[ho]at A;have S0:rS w W v k S z7 H b a o d z n s:=⟨D,TB,SC,hF,MK.out⟩;go_enter func205,ntmps205
  go_upto_region 1 with fail
  rw[HW.out];go_wp2_with fail;refine(sX v 200 5 (dM k o) [] d z _ D (jl k o ba)).mono ?_;rintro e w1 ⟨rfl,x⟩;subst x;rw[ho];go_wp2_with fail;refine(sV z7 H n s _ hs hz SC).mono ?_;rintro e w2 ⟨rfl,Y,be⟩;rw[hr1]at Y ⊢;simp only[fg]at Y ⊢;have S2:=S0.next be Y V bj ar ai;obtain⟨W3,ac⟩:∃W3,W3=w2.alloc (.cells #[.string X,.int .i64 u1,.bool f1,.string n,.int .i64 (aP s E),.int .i64 (bm s E)] 255):=⟨_,rfl⟩
  have aT:Hid _:=ac.symm;have S3:rS w W3 v k S z7 z1 b a o d z n s:=by rw[ac];exact S2.Vb ((ab.refl [] _).alloc _)
  have I3:jx W3 w2.heap.size n s ⟨X,u1,f1,E⟩:=by rw[ac];exact QS _ _
  clear ac S0 S2 Y be D TB SC hP hF hK HW hr1
  go_upto_region 4 with fail
  rw[aT.out];clear aT;obtain⟨m,p,t,u,a4,a5⟩:=I3.cells;go_wp2_with fail;refine(cK X n u1 (aP s E) (bm s E) f1 _).mono ?_;rintro e w4 ⟨rfl,an⟩;have J:=S3.Vb an;have I4:=I3.kept an (by simp);clear m p t u a4 a5 S3 I3 an;obtain⟨m,p,t,u,a4,a5⟩:=I4.cells;have b6:=ae I4;have b3:=ae J.F
  cases x:(u1==0 && !f1)
  ·have g:Hid (mX (cn b y) b i H ⟨n,l,c⟩ o d=((iK n s ⟨X,u1,f1,E⟩,o,d),H)):=by
    show _=_;rw[I.out,A.out];simp[aI,x]
   clear I A;go_wp2_with fail;refine(na X n u1 (aP s E) (bm s E) f1 _).mono ?_;rintro e w5 ⟨rfl,bs⟩;obtain⟨q,hq⟩:∃q:Int,Hid ((if f1=true then(7:Int) else u1)=q):=⟨_,rfl⟩
   rw[hq.out];have Q:=J.Vb bs;obtain⟨K,L,N,O⟩:=b8 Q.F;have az:=am Q.F;have f:Hid _:=(fun m p t u=>ki Q.D Q.M (F:=w.heap.size+1) (by omega) (by omega) (B.out _ (by omega)) m p t u);clear m p t u a4 a5;go_wp2
   exact QY (v:=.agg #[.int .i64 q,.string n,.int .i64 (aP s E),.int .i64 (bm s E)]) (by simp[results,results205,go_sem,K,L,N,O]) rfl
    ⟨by rw[g.out,qQ,hq.out],z,by rw[g.out];exact(f.out _ _ _ _).1,(f.out _ _ _ _).2,by
     rw[g.out];intro C
     exfalso
     simp only[iK]at C
     cases f1
     ·simp at x C;exact x C
     ·simp at C⟩
  ·have bx:u1=0:=by simp at x;exact x.1
   have bp:f1=false:=by simp at x;exact x.2
   subst bx bp
   cases U:dA X
   ·have b0:w4.cell? ⟨v,0,none⟩=some (.pointer (some ⟨k,0,none⟩)):=J.D.preCell 0 (by simp[dM])
    rcases bd with ag | ⟨j,hj,af⟩
    ·have g:Hid (mX (cn b y) b i H ⟨n,l,c⟩ o d=(((6,kK n s E),o,d),H)):=by
      show _=_;rw[I.out,A.out];simp[aI,U,ag]
     clear I A
     go_upto_region 8 with (go_at_call 231;refine(dV X _ (by omega)).mono ?_;rintro e w5 ⟨rfl,rfl⟩)
     go_quiet ((go_at_call 50;exact Rd (lN k S b a X _ (J.Vb ((ab.refl [] _).drewN _)).TB)))
     have Q:=J.Vb ((ab.refl [] _).drewN nq);rw[ag];obtain⟨K,L,N,O⟩:=b8 J.F;have az:=am J.F;have f:Hid _:=(fun m p t u=>ki Q.D Q.M (F:=w.heap.size+1) (by omega) (by omega) (B.out _ (by omega)) m p t u);go_wp2
     exact QY (v:=.agg #[.int .i64 6,.string n,.int .i64 (aP s E),.int .i64 (bm s E)]) (by simp[results,results205,go_sem,K,L,N,O]) rfl
      ⟨by rw[g.out];rfl,z,by rw[g.out];exact(f.out _ _ _ _).1,(f.out _ _ _ _).2,by rw[g.out];intro C;cases C⟩
    ·go_upto_region 8 with (go_at_call 231;refine(dV X _ (by omega)).mono ?_;rintro e w5 ⟨rfl,rfl⟩)
     go_quiet ((go_at_call 50;exact Rd (lN k S b a X _ (J.Vb ((ab.refl [] _).drewN _)).TB)))
     rw[af];have Q:=J.Vb ((ab.refl [] _).drewN nq);go_wp2_with fail;refine(sV z7 z1 n s _ hs ax.2.1 Q.SC).mono ?_;rintro e w6 ⟨rfl,Z,bf⟩;rw[hr2]at Z ⊢;simp only[fg]at Z ⊢;have S6:=Q.next bf Z V bj ar ai;obtain⟨W7,ad⟩:∃W7,W7=w6.alloc (.cells #[.string t2,.int .i64 u2,.bool f2,.string n,.int .i64 (aP s P),.int .i64 (bm s P)] 255):=⟨_,rfl⟩
     have a6:Hid _:=ad.symm;have S7:rS w W7 v k S z7 z2 b a o d z n s:=by rw[ad];exact S6.Vb ((ab.refl [] _).alloc _)
     have I7:jx W7 w6.heap.size n s ⟨t2,u2,f2,P⟩:=by rw[ad];exact QS _ _
     clear ad J Q S6 Z bf I4 m p t u a4 a5 b0
     go_upto_region 12 with fail
     rw[a6.out];clear a6;obtain⟨m,p,t,u,a4,a5⟩:=I7.cells;go_wp2_with fail;refine(cK t2 n u2 (aP s P) (bm s P) f2 _).mono ?_;rintro e w8 ⟨rfl,ao⟩;have T:=S7.Vb ao;have I8:=I7.kept ao (by simp);clear m p t u a4 a5 S7 I7 ao;obtain⟨m,p,t,u,a4,a5⟩:=I8.cells;have ca:=ae I8;have a7:=ae T.F;have al:¬((j:Int)<0):=by omega
     cases G:(u2==0 && !f2)
     ·have g:Hid (mX (cn b y) b i H ⟨n,l,c⟩ o d=((iK n s ⟨t2,u2,f2,P⟩,o,d),H)):=by
       show _=_;rw[I.out,A.out,af];simp[aI,U,G,al]
      clear I A;go_wp2_with fail;refine(na t2 n u2 (aP s P) (bm s P) f2 _).mono ?_;rintro e w9 ⟨rfl,bv⟩;obtain⟨q,hq⟩:∃q:Int,Hid ((if f2=true then(7:Int) else u2)=q):=⟨_,rfl⟩
      rw[hq.out];have S9:=T.Vb bv;obtain⟨K,L,N,O⟩:=b8 S9.F;have az:=am S9.F;have f:Hid _:=(fun m p t u=>ki S9.D S9.M (F:=w.heap.size+1) (by omega) (by omega) (B.out _ (by omega)) m p t u);clear m p t u a4 a5;go_wp2
      exact QY (v:=.agg #[.int .i64 q,.string n,.int .i64 (aP s P),.int .i64 (bm s P)]) (by simp[results,results205,go_sem,K,L,N,O]) rfl
       ⟨by rw[g.out,qQ,hq.out],z,by rw[g.out];exact(f.out _ _ _ _).1,(f.out _ _ _ _).2,by
        rw[g.out];intro C
        exfalso
        simp only[iK]at C
        cases f2
        ·simp at G C;exact G C
        ·simp at C⟩
     ·have bz:u2=0:=by simp at G;exact G.1
      have br:f2=false:=by simp at G;exact G.2
      subst bz br
      cases bc:(t2.toList == [36,93])
      ·have g:Hid (mX (cn b y) b i H ⟨n,l,c⟩ o d=(((5,kK n s P),o,d),H)):=by
        show _=_;rw[I.out,A.out,af];simp[aI,U,bc,al]
       clear I A;obtain⟨K,L,N,O⟩:=b8 T.F;have az:=am T.F;have f:Hid _:=(fun m p t u=>ki T.D T.M (F:=w.heap.size+1) (by omega) (by omega) (B.out _ (by omega)) m p t u);go_wp2
       exact QY (v:=.agg #[.int .i64 5,.string n,.int .i64 (aP s P),.int .i64 (bm s P)]) (by simp[results,results205,go_sem,K,L,N,O]) rfl
        ⟨by rw[g.out];rfl,z,by rw[g.out];exact(f.out _ _ _ _).1,(f.out _ _ _ _).2,by rw[g.out];intro C;cases C⟩
      ·have g:Hid (mX (cn b y) b i H ⟨n,l,c⟩ o d=(cn b y j o d,z2)):=by
        show _=_;rw[I.out,A.out,af];simp[aI,U,bc,al]
       clear I A;have RJ:=RF.out j w8 hj T.D T.TB;unfold jD at RJ;have aS:Hid _:=RJ;clear RJ RF;generalize cn b y j o d=R at *;obtain⟨⟨r,pf,pl,pc⟩,b4,d'⟩:=R;simp only[gU]at aS;go_wp2_with fail;refine QU aS.out ?_;rintro e w9 ⟨rfl,H9,D9,T9⟩;have F9:=T9.1.get T.F (by rintro (e | e);omega;exact B.out _ (by omega) e);have bo:bV w9 z7 n s z2:=T9.1.get T.SC (by rintro (e | e);exact V e;exact ar e);obtain⟨K,L,N,O⟩:=b8 F9;have az:=am F9;have f:Hid _:=(fun m p t u=>ki D9 (T.M.trans (T9.Vg z7)) (F:=w.heap.size+1) (by omega) (by omega) (T9.fresh _ a7 (B.out _ (by omega))) m p t u);have bl:Hid _:=(fun m p t u=>bo.kept (ji (r:=w.heap.size+1) m p t u) (by simp;omega));clear m p t u a4 a5;go_wp2
       exact QY (v:=.agg #[.int .i64 r,.string pf,.int .i64 pl,.int .i64 pc]) (by simp[results,results205,go_sem,K,L,N,O]) rfl
        ⟨by rw[g.out];rfl,H9,by rw[g.out];exact(f.out _ _ _ _).1,(f.out _ _ _ _).2,by rw[g.out];exact fun _=>bl.out _ _ _ _⟩
   ·have g:Hid (mX (cn b y) b i H ⟨n,l,c⟩ o d=(((5,kK n s E),o,d),H)):=by
     show _=_;rw[I.out,A.out];simp[aI,U]
    clear I A;obtain⟨K,L,N,O⟩:=b8 J.F;have az:=am J.F;have f:Hid _:=(fun m p t u=>ki J.D J.M (F:=w.heap.size+1) (by omega) (by omega) (B.out _ (by omega)) m p t u);go_wp2_with (go_at_call 231;refine(dV X _ (by omega)).mono ?_;rintro e w5 ⟨rfl,rfl⟩)
    exact QY (v:=.agg #[.int .i64 5,.string n,.int .i64 (aP s E),.int .i64 (bm s E)]) (by simp[results,results205,go_sem,K,L,N,O]) rfl
     ⟨by rw[g.out];rfl,z,by rw[g.out];exact(f.out _ _ _ _).1,(f.out _ _ _ _).2,by rw[g.out];intro C;cases C⟩
 ·have g:Hid (mX (cn b y) b i H ⟨n,l,c⟩ o d=(((4,⟨n,l,c⟩),o,d),H)):=by
   show _=_;rw[I.out,A.out,ho];simp
  clear I A;have i0:W.cell? ⟨w.heap.size,0,none⟩=some (.string n):=by rw[aa hP];rfl
  have i1:W.cell? ⟨w.heap.size,1,none⟩=some (.int .i64 l):=by rw[aa hP];rfl
  have i2:W.cell? ⟨w.heap.size,2,none⟩=some (.int .i64 c):=by rw[aa hP];rfl
  obtain⟨K,L,N,O⟩:=b8 hF;have az:=am hF;have f:Hid _:=(fun m p t u=>ki D MK.out (F:=w.heap.size+1) (by omega) (by omega) (B.out _ (by omega)) m p t u);go_enter func205,ntmps205
  go_upto_region 1 with fail
  rw[HW.out];go_wp2_with fail;refine(sX v 200 5 (dM k o) [] d z _ D (jl k o ba)).mono ?_;rintro e w1 ⟨rfl,x⟩;subst x;rw[ho];go_wp2
  exact QY (v:=.agg #[.int .i64 4,.string n,.int .i64 l,.int .i64 c]) (by simp[results,results205,go_sem,K,L,N,O]) rfl
   ⟨by rw[g.out];rfl,z,by rw[g.out];exact(f.out _ _ _ _).1,(f.out _ _ _ _).2,by rw[g.out];intro C;cases C⟩
theorem Aw(B:o.length=4)(d:Db)(f:Nat->Hd)(n s t:ByteArray)(l c:Int)(w:World)(h:aR w v 200 (dM k o) [] d f)(hn:aE b i=n)(X:ak b i=s)(hs:s.size<=1024)(hz:H<=s.size)(p:bV w z7 n s H)(ht:bi w k S b a)(g:z7≠v)(ac:k≠z7)(D:¬f9 f z7)(Y:fK d 10000000)(Z:t.size<=1073741824)(V:AY d 100000000)(RF:Hid (∀(j:Nat) (m:World),j<b.length->aR m v 200 (dM k o) [] d f->bi m k S b a->jD v k b y j o d f m)) :
  Calls prog 157 #[.pointer (some ⟨v,0,none⟩),.pointer (some ⟨z7,0,none⟩),.agg #[.string t,.int .i64 0,.bool false,.string n,.int .i64 l,.int .i64 c]] w fun e m =>
   e=.returned (gU (jN (cn b y) b i H t ⟨n,l,c⟩ o d).1.1)/\∃E,aR m v 200 (dM k (jN (cn b y) b i H t ⟨n,l,c⟩ o d).1.2.1) [] (jN (cn b y) b i H t ⟨n,l,c⟩ o d).1.2.2 E/\fJ v z7 w f m E /\
    (((jN (cn b y) b i H t ⟨n,l,c⟩ o d).1.1.1==0)=true->bV m z7 n s (jN (cn b y) b i H t ⟨n,l,c⟩ o d).2):=by
 cases U:(t.toList == [36,91])
 ·have G:jN (cn b y) b i H t ⟨n,l,c⟩ o d=((if((aX d t ⟨n,l,c⟩).1==0)=true then cY else((aX d t ⟨n,l,c⟩).1,⟨n,l,c⟩),o,(aX d t ⟨n,l,c⟩).2),H):=by
   unfold jN;rw[U];simp
  rw[G];refine(ue v 200 k o B d f _ t n l c w h Y Z V U).mono ?_;rintro e m ⟨rfl,E,D',T'⟩;exact⟨rfl,E,D',T'.Vg z7,fun _=>T'.1.get p (by rintro (e | e);exact g e;exact D e)⟩
 ·have G:jN (cn b y) b i H t ⟨n,l,c⟩ o d=mX (cn b y) b i H ⟨n,l,c⟩ o d:=by
   unfold jN;rw[U];simp
  rw[G];obtain⟨W,A⟩:∃W,W=((w.alloc (.cells #[.string t,.int .i64 0,.bool false,.string n,.int .i64 l,.int .i64 c] 255)).alloc (.cells #[.int .i64 0,.string ⟨#[]⟩,.int .i64 0,.int .i64 0] 87)):=⟨_,rfl⟩
  have J:ab [] w W:=by rw[A];exact((ab.refl [] w).alloc _).alloc _
  have ai:=h.lt;have af:=ae p
  have I:W.heap[w.heap.size]?=some (.cells #[.string t,.int .i64 0,.bool false,.string n,.int .i64 l,.int .i64 c] 255 (0,0)):=by
   rw[A];exact((ab.refl [] _).alloc _).get (QS _ _) (by simp)
  have hF:W.heap[w.heap.size+1]?=some (.cells bA 87 (0,0)):=by
   rw[A];have:=QS (w.alloc (.cells #[.string t,.int .i64 0,.bool false,.string n,.int .i64 l,.int .i64 c] 255)) (.cells #[.int .i64 0,.string ⟨#[]⟩,.int .i64 0,.int .i64 0] 87);simpa [bA] using this
  have i0:W.cell? ⟨w.heap.size,0,none⟩=some (.string t):=by rw[aa I];rfl
  have i3:W.cell? ⟨w.heap.size,3,none⟩=some (.string n):=by rw[aa I];rfl
  have i4:W.cell? ⟨w.heap.size,4,none⟩=some (.int .i64 l):=by rw[aa I];rfl
  have i5:W.cell? ⟨w.heap.size,5,none⟩=some (.int .i64 c):=by rw[aa I];rfl
  have IC:=Cd v k S z7 y i H b a o B d f n s l c W (h.Vb J) hn X hs hz (p.kept J (by simp)) (ht.kept J (by simp)) g ac D RF;have u:Hid _:=IC;have x:Hid (∀ad,w.heap.size<=ad->¬f9 f ad):=fun ad hk hm=>by have:=h.inlt hm;omega
  have HW:Hid _:=A.symm;have Q:=ae hF;clear A IC RF G h;generalize mX (cn b y) b i H ⟨n,l,c⟩ o d=R at *;obtain⟨⟨⟨r,pf,pl,pc⟩,ag,d'⟩,z'⟩:=R;simp only[gU]at u ⊢;go_enter func157,ntmps157
  go_upto_region 1 with fail
  rw[HW.out];go_wp2_with fail;refine QU u.out ?_;rintro e w2 ⟨rfl,H2,D2,L,C⟩;have z:=L.1.get hF (by rintro (e | e | e);omega;omega;exact x.out _ (by omega) e);obtain⟨j0,j1,j2,j3⟩:=b8 z;have al:=am z;have q:Hid _:=(fun M N O P=>ki D2 (L.first J) (F:=w.heap.size+1) (by omega) (by omega) (L.fresh _ Q (x.out _ (by omega))) M N O P);have K:Hid _:=(fun M N O P T=>(C T).kept (ji (r:=w.heap.size+1) M N O P) (by simp;omega));clear C i0 i3 i4 i5;go_wp2
  exact QY (v:=.agg #[.int .i64 r,.string pf,.int .i64 pl,.int .i64 pc]) (by simp[results,results157,go_sem,j0,j1,j2,j3]) rfl
   ⟨rfl,H2,(q.out _ _ _ _).1,(q.out _ _ _ _).2,fun T=>K.out _ _ _ _ T⟩
set_option maxRecDepth 512
theorem Cv :
  Calls prog 153 #[.agg #[.string N,.string l]] x fun e a=>∃s,e=.returned (.pointer (some ⟨s,0,none⟩))/\x.heap.size<=s/\bV a s N l 0/\ab [] x a:=by
 go_enter func153,ntmps153;go_wp2;go_ret;refine⟨x.heap.size+1,rfl,by omega,?_,((ab.refl _ _).alloc _).alloc _⟩;have:=QS (x.alloc (.cells #[.string N,.string l] 68)) (.cells #[.string N,.string l,.int .i64 0,.int .i64 1,.int .i64 1] 300);simpa [bV,mw,aP,bm] using this
theorem aA.beyond(T:aA f n d z5 y0)(k:ab y7 z5 y5)(b:∀x,x∈y7->n.heap.size<=x):aA f n d y5 y0 :=
 ⟨⟨k.os.trans T.1.os,k.tape.trans T.1.tape,k.output.trans T.1.output,Q3 T.1.size k.size,fun i a e=>by
  rw[<-T.1.block i a e];exact k.block i (QX a T.1.size) (fun c=>by have:=b i c;omega)⟩,T.2⟩
theorem aA.word(T:aA f n d z5 y0)(M:fJ f I z5 y0 y5 x7)(g:n.heap.size<=I):aA f n d y5 x7:=by
 refine⟨⟨M.1.os.trans T.1.os,M.1.tape.trans T.1.tape,M.1.output.trans T.1.output,Q3 T.1.size M.1.size,?_⟩,?_⟩
 ·intro k a b
  rw[<-T.1.block k a b];refine M.1.block k (QX a T.1.size) ?_;rintro (e | e | c)
  ·exact b (Q1 e)
  ·omega
  ·rcases T.2 k c with h | h
   ·exact b (QV h)
   ·omega
 ·intro k a
  rcases M.2 k a with h | h
  ·exact T.2 k h
  ·exact QV (Q3 T.1.size h)
theorem Jj:(dM H o).set (1+zt) (.bool true)=dM H (o.set zt true):=by
 unfold dM;rw[Nat.add_comm 1 zt,SB,Tn]
theorem CK(h:o.length=4)(a:zt<4):(dM H o)[1+zt]?=some (.bool (o.getD zt true)):=by
 unfold dM;rw[Nat.add_comm 1 zt,SE,Rq,QQ];rw[QP (by omega)];rfl
set_option maxRecDepth 100000
theorem wS(a:o.length=4)(d:Db)(c:Nat->Hd)(w:World)(j:H<4)(h:aR w z7 200 (dM y o) [] d c)(e:o.getD H true=true):jD z7 y b i H o d c w:=by
 unfold jD cn;rw[QW e];have g:=h.lt;have f:=h.preCell (1+H) (by rw[jl y o a];omega);rw[CK y o H a j,e]at f;have l:Hid (¬f9 c w.heap.size):=fun k=>by have:=h.inlt k;omega
 go_enter func111,ntmps111;go_wp2
 exact QY (v:=.agg #[.int .i64 0,.string ⟨#[]⟩,.int .i64 0,.int .i64 0]) (by simp[results,results111,go_sem]) rfl
  ⟨rfl,c,h.Vb ((ab.refl [] _).alloc _),(aA.refl _ _ _).Vb ((ab.refl [] _).alloc _)⟩
theorem xP(co:∀j,j<b.length->(ak b j).size<=1024)(bw:y≠z7)(IH:∀g,g<H->∀(j:Nat) (G:List Bool) (d:Db) (I:Nat->Hd) (w:World) (m:Nat),j<b.length->G.length=4->nE d m->m+dP b G<=9000000->dP b G<=g->aR w z7 200 (dM y G) [] d I->bi w y i b a->¬f9 I y->jD z7 y b g j G d I w)(j:Nat)(G:List Bool)(d:Db)(I:Nat->Hd)(w:World)(m:Nat)(hj:j<b.length)(ag:G.length=4)(hB:nE d m)(hm:m+dP b G<=9000000)(hf:dP b G<=H)(h:aR w z7 200 (dM y G) [] d I)(ht:bi w y i b a)(bx:¬f9 I y)(hb:G.getD j true=false):jD z7 y b H j G d I w:=by
 unfold jD cn;rw[QT (by rw[hb];simp)];have cx:=ht.2;have hs:=co j hj;have bl:=wG b G j ag hb;obtain⟨n,hn⟩:∃n,aE b j=n:=⟨_,rfl⟩
 obtain⟨s,ad⟩:∃s,ak b j=s:=⟨_,rfl⟩
 rw[ad]at hs bl;have cP:=h.lt;have b6:=h.free;have c2:=ht.lt;have c1:=h.preCell (1+j) (by rw[jl y G ag];omega);rw[CK y G j ag (by omega),hb]at c1;have c0:=h.preCell 0 (by simp[dM]);have b2:w.cell? ⟨z7,0,none⟩=some (.pointer (some ⟨y,0,none⟩)):=c0;clear c0;have P1:=h.pre (1+j) (by rw[jl y G ag];omega) (.bool true);rw[Jj]at P1;obtain⟨l,ai⟩:∃l,G.set j true=l:=⟨_,rfl⟩
 have cb:l.length=4:=by rw[<-ai];simpa using ag
 rw[ai]at P1 bl ⊢;clear ai;obtain⟨W,hW⟩:∃W,W=(w.setCell ⟨z7,1+j,none⟩ (.bool true)).alloc (.cells #[.int .i64 0,.string ⟨#[]⟩,.int .i64 0,.int .i64 0] 87):=⟨_,rfl⟩
 have D1:aR W z7 200 (dM y l) [] d I:=by rw[hW];exact P1.1.Vb ((ab.refl [] _).alloc _)
 have T1:aA z7 w I W I:=by rw[hW];exact P1.2.Vb ((ab.refl [] _).alloc _)
 have F1:W.heap[w.heap.size]?=some (.cells bA 87 (0,0)):=by
  rw[hW];have:=QS (w.setCell ⟨z7,1+j,none⟩ (.bool true)) (.cells bA 87);simpa [World.setCell,bA] using this
 have ba:bi W y i b a:=⟨T1.1.get ht.1 (by rintro (e | e);exact bw e;exact bx e),ht.2⟩;have ap:Hid (∀k,w.heap.size<=k->¬f9 I k):=fun k hk hm=>by have:=h.inlt hm;omega
 have HW:Hid _:=hW.symm;have bT:Hid _:=IH;clear P1 hW IH;go_enter func111,ntmps111;go_wp2_with fail;rw[HW.out];clear HW c1 b2 b6 ht h;refine(Lf y i j b a _ ba hj).mono ?_;rintro e w2 ⟨rfl,Y⟩;rw[hn,ad];go_wp2_with fail;refine(Cv n s _).mono ?_;rintro e w3 ⟨sp,rfl,cV,h3,Z⟩;go_wp2_with fail;refine(sV sp 0 n s _ hs (by omega) h3).mono ?_;rintro e w4 ⟨rfl,h4,ac⟩;have cL:=ae F1;have c3:=Y.size;have c4:=Z.size;have c5:=ac.size;have cz:w.heap.size<sp:=by omega
 have bv:sp≠z7:=by omega
 have bz:y≠sp:=by omega
 have T4:aA z7 w I w4 I:=(((T1.Vb Y).Vb Z).beyond ac (by simp;omega));have F4:w4.heap[w.heap.size]?=some (.cells bA 87 (0,0)):=ac.get (Z.get (Y.get F1 (by simp)) (by simp)) (by simp;omega);have D4:aR w4 z7 200 (dM y l) [] d I:=((D1.Vb Y).Vb Z).kept ac (by simp;omega) (by intro k hk;simp;rintro rfl;exact ap.out _ (by omega) hk);have bd:bi w4 y i b a:=((ba.kept Y (by simp)).kept Z (by simp)).kept ac (by simp;omega);have cy:=ae h4;clear D1 T1 F1 ba Y Z ac h3;simp only[fg];go_wp2
 go_loopg [7] s.size (fun gk _ wr=>∃(k g m1:Nat) (f:List Bool) (x:Db) (J:Nat->Hd),k<=s.size/\gk=s.size-k/\f.length=4/\nE x m1/\m1+(s.size-k)+dP b f<=9000000/\(s.size-k)+dP b f+1<=g/\g<=H /\
  Hid (bq b H j 0 l d=bq b g j k f x)/\bV wr sp n s (ay s k).2/\jx wr w4.heap.size n s (ay s k).1 /\
  wr.heap[w.heap.size]?=some (.cells bA 87 (0,0))/\aR wr z7 200 (dM y f) [] x J/\bi wr y i b a/\aA z7 w I wr J/\(¬f9 J sp/\¬f9 J w4.heap.size/\¬f9 J w.heap.size/\¬f9 J y))
 case atStart=>exact⟨0,H,m,l,d,I,by omega,by omega,cb,hB,by omega,by omega,QR _,rfl,h4.kept ((ab.refl [] _).alloc _) (by simp),QS _ _,((ab.refl [] _).alloc _).get F4 (by simp),D4.Vb ((ab.refl [] _).alloc _),bd.kept ((ab.refl [] _).alloc _) (by simp),T4.Vb ((ab.refl [] _).alloc _),ap.out _ (by omega),ap.out _ (by omega),ap.out _ (by omega),bx⟩
 case round =>
  obtain⟨k,g,m1,f,x,J,hk,hg,an,ax,cT,cR,cS,hR,h5,X,hF,D,TB,T,bo,bp,M,a7⟩:=hrel;obtain⟨L,rfl⟩:∃L,g=L+1:=⟨g-1,by omega⟩
  clear D4 T4 F4 bd h4;have br:=fG s k hk;have cs:=rF s k hs;have SK:=C7 b L (Ll b L).2 j k f x m1 (by rw[ad];exact hk) an ax;have L1:=yD b L j k f x;have L2:=ox b L j k f x;have L3:=zW b L j k f x;have L4:=wk b L j k f x;have ST:fZ b L j k f x=jN (cn b L) b j (ay s k).2 (ay s k).1.text (kK n s (ay s k).1.pos) f x:=by unfold fZ;rw[hn,ad]
  rw[ad]at SK L1 L2 L3 L4;rw[hn]at L4;rw[ST]at SK L1 L2;have L6:aI (ay s k).1=false->(ay s k).1.fin=false->((ay s k).1.rule==0)=false:=km;have U:Hid _:=SK;have P:Hid _:=L1;have R:Hid _:=L2;have S:Hid _:=L3;have K:Hid _:=L4;have af:Hid _:=L6;clear SK L1 L2 L3 L4 L6 ST;generalize hrr:ay s k=r at *;obtain⟨⟨t,u,fi,p⟩,z⟩:=r;clear hrr;simp only at h5 X br cs U P R S K af;obtain⟨q0,q1,q2,q3,q4,q5⟩:=X.cells;have cF:=ae hF;have cX:=ae h5;have cH:=ae X;have cE:=D.lt
  cases hw:(u==0 && !fi)
  ·cases fi
   ·have O:Hid (bq b H j 0 l d=(iK n s ⟨t,u,false,p⟩,f,x)):=hR.out.trans (K.out hw (by simp))
    have hu:(u==0)=false:=by simpa using hw
    clear P R S K af U;go_wp2_with fail;refine(cK t n _ (aP s p) (bm s p) _ _).mono ?_;rintro e w5 ⟨rfl,c⟩;have v:=X.kept c (by simp);have o:=c.get hF (by simp);have D5:=D.Vb c;have T5:=T.Vb c;clear q0 q1 q2 q3 q4 q5 X h5 hF D T c TB;obtain⟨q0,q1,q2,q3,q4,q5⟩:=v.cells;go_wp2_with fail;refine(na t n u (aP s p) (bm s p) _ _).mono ?_;rintro e w6 ⟨rfl,a5⟩;simp only[Bool.false_eq_true,if_false];have A:=a5.get o (by simp);have D6:=D5.Vb a5;have T6:=T5.Vb a5;have q:Hid _:=(fun a0 a1 a2 a3=>nN D6 T6 (F:=w.heap.size) (QR _) (by omega) M a0 a1 a2 a3);obtain⟨z0,z1,z2,z3⟩:=b8 A;have cA:=am A;go_wp2
    exact QY (v:=.agg #[.int .i64 u,.string n,.int .i64 (aP s p),.int .i64 (bm s p)]) (by simp[results,results111,go_sem,z0,z1,z2,z3]) rfl
     ⟨by rw[O.out];rfl,J,by rw[O.out];exact(q.out _ _ _ _).1,(q.out _ _ _ _).2⟩
   ·cases ho:kp x
    ·have O:Hid (bq b H j 0 l d=(cY,f,x)):=hR.out.trans (S.out hw rfl ho)
     clear P R S K af U;go_wp2_with fail;refine(cK t n _ (aP s p) (bm s p) _ _).mono ?_;rintro e w5 ⟨rfl,c⟩;have v:=X.kept c (by simp);have o:=c.get hF (by simp);have D5:=D.Vb c;have T5:=T.Vb c;clear q0 q1 q2 q3 q4 q5 X h5 hF D T c TB;obtain⟨q0,q1,q2,q3,q4,q5⟩:=v.cells;go_wp2_with fail;refine(sX z7 200 5 (dM y f) [] x J _ D5 (jl y f an)).mono ?_;rintro e w6 ⟨rfl,bc⟩;subst bc;rw[ho];have q:Hid _:=(fun a0 a1 a2 a3=>nN D5 T5 (F:=w.heap.size) (QR _) (by omega) M a0 a1 a2 a3);obtain⟨z0,z1,z2,z3⟩:=b8 o;have cA:=am o;go_wp2
     exact QY (v:=.agg #[.int .i64 0,.string ⟨#[]⟩,.int .i64 0,.int .i64 0]) (by simp[results,results111,go_sem,z0,z1,z2,z3]) rfl
      ⟨by rw[O.out];rfl,J,by rw[O.out];exact(q.out _ _ _ _).1,(q.out _ _ _ _).2⟩
    ·have O:Hid (bq b H j 0 l d=(iK n s ⟨t,u,true,p⟩,f,x)):=hR.out.trans (K.out hw (by simp[ho]))
     clear P R S K af U;go_wp2_with fail;refine(cK t n _ (aP s p) (bm s p) _ _).mono ?_;rintro e w5 ⟨rfl,c⟩;have v:=X.kept c (by simp);have o:=c.get hF (by simp);have D5:=D.Vb c;have T5:=T.Vb c;clear q0 q1 q2 q3 q4 q5 X h5 hF D T c TB;obtain⟨q0,q1,q2,q3,q4,q5⟩:=v.cells;go_wp2_with fail;refine(sX z7 200 5 (dM y f) [] x J _ D5 (jl y f an)).mono ?_;rintro e w6 ⟨rfl,bc⟩;subst bc;rw[ho];go_wp2_with fail;refine(na t n u (aP s p) (bm s p) _ _).mono ?_;rintro e w7 ⟨rfl,a6⟩;simp only[if_true];have bf:=a6.get o (by simp);have D7:=D5.Vb a6;have T7:=T5.Vb a6;have q:Hid _:=(fun a0 a1 a2 a3=>nN D7 T7 (F:=w.heap.size) (QR _) (by omega) M a0 a1 a2 a3);obtain⟨z0,z1,z2,z3⟩:=b8 bf;have cA:=am bf;go_wp2
     exact QY (v:=.agg #[.int .i64 7,.string n,.int .i64 (aP s p),.int .i64 (bm s p)]) (by simp[results,results111,go_sem,z0,z1,z2,z3]) rfl
      ⟨by rw[O.out];rfl,J,by rw[O.out];exact(q.out _ _ _ _).1,(q.out _ _ _ _).2⟩
  ·have hu:u=0:=by simp at hw;exact hw.1
   have b5:fi=false:=by simp at hw;exact hw.2
   subst hu b5;have cl:=ax.small (N:=10000000) (by omega);have bs:=(ax.small (N:=100000000) (by omega)).2
   have RW:=fun(w':World) (h':aR w' z7 200 (dM y f) [] x J) (ck:bV w' sp n s z) (cp:bi w' y i b a)=>Aw z7 y i sp L j z b a f an x J n s t (aP s p) (bm s p) w' h' hn ad hs br.2.1 ck cp bv bz bo cl.1 (by omega) bs
    (fun jj ww ca b4 cq=>bT.out L (by omega) jj f x J ww m1 ca an ax (by omega) (by omega) b4 cq a7)
   have aT:Hid _:=RW;have E:Hid _:=U.out hw;have B:Hid _:=P.out hw;have C:Hid _:=R.out hw;clear RW P R S K af U;simp only[kK]at E B C;generalize jN (cn b L) b j z t ⟨n,aP s p,bm s p⟩ f x=Q at *;obtain⟨⟨⟨r,pf,pl,pc⟩,a4,d2⟩,z2⟩:=Q;simp only[gU]at E B C aT;have ao:=E.out.2;obtain⟨bk,cf,m2,be,cc⟩:=E.out.1;simp only at bk cf be cc ao;clear E
   cases hr:(r==0)
   ·have ch:(r != 0)=true:=by simp[bne,hr]
    have O:Hid (bq b H j 0 l d=((r,⟨pf,pl,pc⟩),a4,d2)):=hR.out.trans (C.out hr);clear B C;go_wp2_with fail;refine(cK t n _ (aP s p) (bm s p) _ _).mono ?_;rintro e w5 ⟨rfl,c⟩;have v:=X.kept c (by simp);have ar:=h5.kept c (by simp);have o:=c.get hF (by simp);have D5:=D.Vb c;have T5:=T.Vb c;have V:=TB.kept c (by simp);clear q0 q1 q2 q3 q4 q5 X h5 hF D T TB c;obtain⟨q0,q1,q2,q3,q4,q5⟩:=v.cells;go_wp2_with fail;refine(aT.out _ D5 ar V).mono ?_;rintro e w6 ⟨rfl,H2,D6,M6,-⟩;have A:=M6.1.get o (by rintro (e | e | e);omega;omega;exact M e);have m3:=M6.fresh w.heap.size (ae o) M;have T7:=T5.word M6 (by omega);have aS:=ae A;have y6:=am A;obtain⟨z0,z1,z2,z3⟩:=b8 A;have q:Hid _:=(fun a0 a1 a2 a3=>nN D6 T7 (F:=w.heap.size) (QR _) (by omega) m3 a0 a1 a2 a3);clear q0 q1 q2 q3 q4 q5;go_wp2
    exact QY (v:=.agg #[.int .i64 r,.string pf,.int .i64 pl,.int .i64 pc]) (by simp[results,results111,go_sem,aS,z0,z1,z2,z3]) rfl
     ⟨by rw[O.out];rfl,H2,by rw[O.out];exact(q.out _ _ _ _).1.Vb ((ab.refl [] _).alloc _),((q.out _ _ _ _).2.Vb ((ab.refl [] _).alloc _))⟩
   ·have ch:(r != 0)=false:=by simp[bne,hr]
    have O:Hid (bq b H j 0 l d=bq b L j z2 a4 d2):=hR.out.trans (B.out hr);clear B C;go_wp2_with fail;refine(cK t n _ (aP s p) (bm s p) _ _).mono ?_;rintro e w5 ⟨rfl,c⟩;have v:=X.kept c (by simp);have ar:=h5.kept c (by simp);have o:=c.get hF (by simp);have D5:=D.Vb c;have T5:=T.Vb c;have V:=TB.kept c (by simp);clear q0 q1 q2 q3 q4 q5 X h5 hF D T TB c;obtain⟨q0,q1,q2,q3,q4,q5⟩:=v.cells;go_wp2_with fail;refine(aT.out _ D5 ar V).mono ?_;rintro e w6 ⟨rfl,H2,D6,M6,cj⟩;have h6:=cj hr;have A:=M6.1.get o (by rintro (e | e | e);omega;omega;exact M e);have bj:jx w6 w4.heap.size n s ⟨t,0,false,p⟩:=M6.1.get v (by rintro (e | e | e);omega;omega;exact bp e);have b0:bi w6 y i b a:=⟨M6.1.get V.1 (by rintro (e | e | e);exact bw e;exact bz e;exact a7 e),V.2⟩;have e1:=M6.fresh sp (ae ar) bo;have e2:=M6.fresh w4.heap.size (ae v) bp;have e3:=M6.fresh w.heap.size (ae o) M;have e4:=M6.fresh y V.lt a7;have T7:=T5.word M6 (by omega);have aS:=ae A;have ct:=ae bj;have cB:=ae h6;go_wp2_with fail;refine(sV sp z2 n s _ hs ao.2 (by exact h6.kept ((ab.refl [] _).alloc _) (by simp))).mono ?_;rintro e w8 ⟨rfl,h8,al⟩;have az:=(bj.kept ((ab.refl [] _).alloc _) (by simp)).kept al (by simp;omega);have b3:=al.get (((ab.refl [] _).alloc _).get A (by simp)) (by simp;omega);have D8:=(D6.Vb ((ab.refl [] _).alloc _)).kept al (by simp;omega) (by intro k hk;simp;rintro rfl;exact e1 hk);have b1:=(b0.kept ((ab.refl [] _).alloc _) (by simp)).kept al (by simp;omega);have T8:=(T7.Vb ((ab.refl [] _).alloc _)).beyond al (by simp;omega);have yy:=am az;have cu:=ae az;clear q0 q1 q2 q3 q4 q5;obtain⟨q0,q1,q2,q3,q4,q5⟩:=az.cells;simp only[fg];go_wp2
    go_roundg (s.size-z2)
    case measure=>omega
    case rel =>
     exact⟨z2,L,m2,a4,d2,H2,ao.2,rfl,bk,be,by omega,by omega,by omega,O.out,gQ h8 (by omega) _ _ _ _ _ _,pJ az _,uj b3 (by omega) _ _ _ _ _ _,
      D8.kept (Fc _ _ _ _ _ _) (by simp;omega) (by intro k hk;simp;rintro rfl;exact e2 hk),b1.kept (Fc _ _ _ _ _ _) (by simp;omega),T8.beyond (Fc _ _ _ _ _ _) (by simp;omega),e1,e2,e3,e4⟩
theorem Av(k:∀j,j<b.length->(ak b j).size<=1024)(l:i≠y)(f:Nat):∀(j:Nat) (c:List Bool) (d:Db) (e:Nat->Hd) (w:World) (m:Nat),j<b.length->c.length=4->nE d m->m+dP b c<=9000000->dP b c<=f->aR w y 200 (dM i c) [] d e->bi w i H b a->¬f9 e i->jD y i b f j c d e w:=by
 induction f using Nat.strongRecOn with
 | _ f IH =>
  intro j c d e w m s g q t r h p n
  cases o:c.getD j true with
  | true=>exact wS y i f j b c g d e w (by have:=p.2;omega) h o
  | false=>exact xP y i H f b a k l IH j c d e w m s g q t r h p n o
structure gj(w:World)(l:List St)(H:Nat->Hd):Prop where
  own:aw w (H 6) (iE l H)
  syms:∀i s,l[i]?=some s->aw w (H (10+2*i)) (aB s.U6)
  prfs:∀i s,l[i]?=some s->aw w (H (11+2*i)) (gN s.Vh)
theorem aR.record(h:aR n f I zb y3 L d):gj n L.Vn d:=by
  refine⟨h.own 6,fun i s a=>?_,fun i s a=>?_⟩
  · have:=h.own (10+2*i)
    rw[show 10+2*i=2*i+10 by omega]at this ⊢;have e:aU L d (2*i+10)=aB s.U6:=by simp[aU,inner,symsAt,a]
    rw[e]at this;exact this
  · have:=h.own (11+2*i)
    rw[show 11+2*i=(2*i+1)+10 by omega]at this ⊢;have q:(2*i+1) % 2=1:=by omega
    have b:(2*i+1) / 2=i:=by omega
    have e:aU L d ((2*i+1)+10)=gN s.Vh:=by simp[aU,inner,ti,q,b,a]
    rw[e]at this;exact this
theorem gj.keptP{P:Nat->Prop}(h:gj n y2 d)(k:eK P n z5)(c:∀x,f9 d x->¬P x):gj z5 y2 d :=
  ⟨h.own.Vg (fun x a=>k.block x (h.own.lt a) (c x ⟨6,a⟩)),fun i s b=>(h.syms i s b).Vg (fun x a=>k.block x ((h.syms i s b).lt a) (c x ⟨_,a⟩)),fun i s b=>(h.prfs i s b).Vg (fun x a=>k.block x ((h.prfs i s b).lt a) (c x ⟨_,a⟩))⟩
theorem gj.kept(h:gj n y2 d)(k:ab y7 n z5)(a:∀x,f9 d x->x∉y7):gj z5 y2 d :=
  h.keptP (k.toP (P:=(·∈y7)) (fun _ b _=>b)) a
theorem gj.Vb(h:gj n y2 d)(k:ab [] n z5):gj z5 y2 d:=h.kept k (by simp)
def mE:Nat->Hd:=fun _=>⟨none,0⟩
theorem ua:¬f9 mE zt:=by rintro ⟨i,h⟩;simp[mE,Hd.blk]at h
def F3:List Bool:=[false,false,false,false]
theorem aR.begin(h:n.heap[f]?=some (.cells (zb++(b9 fm mE++[])).toArray I (0,0))):aR n f I zb [] fm mE:=by
  refine⟨h,?_,fun i j _=>Q1 rfl,fun i e=>by simp[mE,Hd.blk]at e⟩;intro i
  match i with
  | 0=>exact QZ _ _ _ _
  | 1=>exact QZ _ _ _ _
  | 2=>exact QZ _ _ _ _
  | 3=>exact QZ _ _ _ _
  | 4=>exact QZ _ _ _ _
  | 5=>exact QZ _ _ _ _
  | 6=>exact QZ _ _ _ _
  | 7=>exact QZ _ _ _ _
  | 8=>exact QZ _ _ _ _
  | 9=>exact QZ _ _ _ _
  | n+10 =>
    have e:aU fm mE (n+10)=if n % 2=0 then aB [] else gN []:=by simp[aU,inner,fm,symsAt,ti]
    rw[e]
    split
    · exact QZ _ _ _ _
    · exact QZ _ _ _ _
set_option maxRecDepth 512
theorem E4(h:aR x v k D a w T)(g:D.length=S) :
    Calls prog 112 #[.pointer (some ⟨v,S,none⟩)] x fun e r=>e=.returned (.agg #[.slice (T 6).ao w.Vn.length (T 6).cap,.slice (T 7).ao w.rbl.length (T 7).cap])/\ab [] x r:=by
  obtain⟨i,j,l,m,n,o,s,t,p,q,b,c,d⟩:=h.cells S g;clear i j l m n o p q b c d;have f:=h.lt;go_enter func112,ntmps112;go_wp2;exact QY (v:=.agg #[.slice (T 6).ao w.Vn.length (T 6).cap,.slice (T 7).ao w.rbl.length (T 7).cap]) (by simp[results,results112,go_sem]) rfl ⟨rfl,(ab.refl _ _).alloc _⟩
theorem Al(a:∀j,j<b.length->(ak b j).size<=1024)(c:List Bool):dP b c<=4104:=by
  have h:∀j,MX b c j<=1026:=by
    intro j;unfold MX
    split
    · omega
    · rcases UR j b.length with h | h
      · have:=a j h;omega
      · have:(ak b j).size=0:=by unfold ak;rw[QQ,Rx h];rfl
        omega
  have d:=h 0;have e:=h 1;have f:=h 2;have g:=h 3;unfold dP;omega
theorem Ad(h:ab y7 n z5)(b:f∈y7∨n.heap.size<=f)(a:I∈y7∨n.heap.size<=I)(c d e g i j:Value) :
    ab y7 n ((((((z5.setCell ⟨f,0,none⟩ c).setCell ⟨f,1,none⟩ d).setCell ⟨I,0,none⟩ e).setCell ⟨I,1,none⟩ g).setCell ⟨I,2,none⟩ i).setCell ⟨I,3,none⟩ j) :=
  (((((h.setCell b _).setCell b _).setCell a _).setCell a _).setCell a _).setCell a _
def bK(fs:Fs)(root:Nat):FP:=cn fs 5000 root F3 fm
set_option maxRecDepth 100000
theorem Md(Z:bi x y i b a)(Q:H<b.length)(p:∀j,j<b.length->(ak b j).size<=1024) :
    Calls prog 79 #[.pointer (some ⟨y,0,none⟩),.int .i64 H] x fun e w' =>
      (if((bK b H).1.1==0)=true then ∃q,e=.returned (.tuple #[.agg #[.slice (q 6).ao (bK b H).2.2.Vn.length (q 6).cap,.slice (q 7).ao (bK b H).2.2.rbl.length (q 7).cap],gU cY])/\gj w' (bK b H).2.2.Vn q/\(∀k,f9 q k->x.heap.size<=k)
       else e=.returned (.tuple #[.agg #[.slice none 0 0,.slice none 0 0],gU (bK b H).1]))/\ab [] x w':=by
  have ad:=Z.lt
  obtain⟨W,s⟩:∃W,W=((x.alloc (.cells #[.slice none 0 0,.slice none 0 0] 76)).alloc (.cells #[.int .i64 0,.string ⟨#[]⟩,.int .i64 0,.int .i64 0] 87)).alloc (.cells #[.pointer (some ⟨y,0,none⟩),.bool false,.bool false,.bool false,.bool false,
    .slice none 0 0,.slice none 0 0,.slice none 0 0,.slice none 0 0,.slice none 0 0,.slice none 0 0,.slice none 0 0,.slice none 0 0,.int .i64 0,.string ⟨#[]⟩,.slice none 0 0,.bool false,.slice none 0 0] 200):=⟨_,rfl⟩
  have m:ab [] x W:=by rw[s];exact(((ab.refl [] _).alloc _).alloc _).alloc _
  have hA:W.heap[x.heap.size]?=some (.cells #[.slice none 0 0,.slice none 0 0] 76 (0,0)):=by
    rw[s];exact(((ab.refl [] _).alloc _).alloc _).get (QS _ _) (by simp)
  have X:W.heap[x.heap.size+1]?=some (.cells bA 87 (0,0)):=by
    rw[s];have e:(x.alloc (.cells #[.slice none 0 0,.slice none 0 0] 76)).heap.size=x.heap.size+1:=by simp
    rw[<-e];exact((ab.refl [] _).alloc _).get (QS _ _) (by simp)
  have V:aR W (x.heap.size+2) 200 (dM y F3) [] fm mE:=by
    refine aR.begin ?_;rw[s];have e:((x.alloc (.cells #[.slice none 0 0,.slice none 0 0] 76)).alloc (.cells #[.int .i64 0,.string ⟨#[]⟩,.int .i64 0,.int .i64 0] 87)).heap.size=x.heap.size+2:=by simp
    rw[<-e];exact QS _ _
  have hT:bi W y i b a:=Z.kept m (by simp);have HW:Hid _:=s.symm;have P:=Av (x.heap.size+2) y i b a p (by omega) 5000 H F3 fm mE W 0 Q rfl nE.empty (by have:=Al b p F3;omega) (by have:=Al b p F3;omega) V hT (ua _);unfold jD at P;have v:Hid _:=P;clear s P;have u:Hid ((cn b 5000 H F3 fm).2.1.length=4):=((Ll b 5000).2 H F3 fm 0 rfl nE.empty).1;have T:Hid (bK b H=cn b 5000 H F3 fm):=rfl;rw[T.out];clear T;generalize cn b 5000 H F3 fm=R at *;obtain⟨⟨r,pf,pl,pc⟩,w,F⟩:=R;simp only[gU]at v u ⊢;go_enter func79,ntmps79
  go_upto_region 2 with fail
  rw[HW.out];go_wp2_with fail;refine QU v.out ?_;rintro e G ⟨rfl,f,M,d⟩;have c:=d.1.get hA (by rintro (e | e);omega;exact ua _ e);have g:=d.1.get X (by rintro (e | e);omega;exact ua _ e);have af:=d.1.size;have ac:=M.lt
  have O:Hid (∀k,f9 f k->x.heap.size<=k):=fun k n=>by
    rcases d.2 k n with h | h
    · exact absurd h (ua _)
    · have:=m.size;omega
  have N:Hid (∀k,f9 f k->k≠x.heap.size/\k≠x.heap.size+1/\k≠x.heap.size+2):=fun k n=>by
    have hz:=ae X;have ag:=V.lt
    rcases d.2 k n with h | h
    · exact absurd h (ua _)
    · omega
  have U:Hid (ab [] x G):=⟨d.1.os.trans m.os,d.1.tape.trans m.tape,d.1.output.trans m.output,Q3 m.size d.1.size,fun k n _=>(d.1.block k (QX n m.size) (by rintro (e | e);omega;exact ua _ e)).trans (m.block k n (by simp))⟩;have D:G.cell? ⟨x.heap.size,0,none⟩=some (.slice none 0 0):=by rw[aa c];rfl
  have E:G.cell? ⟨x.heap.size,1,none⟩=some (.slice none 0 0):=by rw[aa c];rfl
  obtain⟨I,J,K,L⟩:=b8 g;have ya:=am c;have yf:=am g;have z:=ae c;have A:=ae g
  cases Y:(r==0)
  · have S:(r != 0)=true:=by simp[bne,Y]
    go_wp2_with fail
    go_region
    all_goals go_wp2
    all_goals exact QY (v:=.tuple #[.agg #[.slice none 0 0,.slice none 0 0],.agg #[.int .i64 r,.string pf,.int .i64 pl,.int .i64 pc]]) (by simp[results,results79,go_sem,D,E,I,J,K,L,z,A]) rfl ⟨rfl,((Ad U.out (QV (QR _)) (QV (TO _)) _ _ _ _ _ _).alloc _).drew⟩
  · have S:(r != 0)=false:=by simp[bne,Y]
    go_wp2_with fail;refine(E4 (x.heap.size+2) 200 5 (dM y w) [] F f _ (by exact M.Vb ((ab.refl [] _).alloc _)) (jl y w u.out)).mono ?_;rintro e t ⟨rfl,C⟩;have l:ab [] G t:=((ab.refl [] _).alloc _).trans C;have o:=l.get c (by simp);have B:=l.get g (by simp);have K4:Hid (ab [] x t):=U.out.trans l;have S4:Hid (gj t F.Vn f):=M.record.Vb l;clear D E I J K L ya yf C;have D:t.cell? ⟨x.heap.size,0,none⟩=some (.slice none 0 0):=by rw[aa o];rfl
    have E:t.cell? ⟨x.heap.size,1,none⟩=some (.slice none 0 0):=by rw[aa o];rfl
    obtain⟨I,J,K,L⟩:=b8 B;have ya:=am o;have yf:=am B;go_wp2
    exact QY (v:=.tuple #[.agg #[.slice (f 6).ao F.Vn.length (f 6).cap,.slice (f 7).ao F.rbl.length (f 7).cap],.agg #[.int .i64 0,.string ⟨#[]⟩,.int .i64 0,.int .i64 0]]) (by simp[results,results79,go_sem,D,E,I,J,K,L]) rfl
      ⟨⟨f,rfl,S4.out.kept (Ad (ab.refl [x.heap.size,x.heap.size+1] t) (Q1 (by simp)) (Q1 (by simp)) _ _ _ _ _ _) (fun k n=>by have:=N.out k n;simp;omega),O.out⟩,
        Ad K4.out (QV (QR _)) (QV (TO _)) _ _ _ _ _ _⟩
structure dF(w:World)(b o:Nat)(l:List St)(H:Nat->Hd):Prop where
 cell:∃arr t,w.heap[b]?=some (.cells arr t (0,0))/\arr[o]?=some (.slice (H 6).ao l.length (H 6).cap)
 Vn:gj w l H
theorem dF.at(h:dF n f I y2 d):n.cell? ⟨f,I,none⟩=some (.slice (d 6).ao y2.length (d 6).cap):=by
 obtain⟨a,t,b,c⟩:=h.cell;rw[aa b];exact c
theorem dF.lt(h:dF n f I y2 d):f<n.heap.size:=by
 obtain⟨a,t,b,c⟩:=h.cell;exact ae b
theorem dF.kept(h:dF n f I y2 d)(k:ab y7 n z5)(g:f∉y7)(e:∀x,f9 d x->x∉y7):dF z5 f I y2 d:=by
 obtain⟨a,t,b,c⟩:=h.cell;exact⟨⟨a,t,k.get b g,c⟩,h.Vn.kept k e⟩
theorem dF.Vb(h:dF n f I y2 d)(k:ab [] n z5):dF z5 f I y2 d:=h.kept k (by simp) (by simp)
theorem gj.stmt(h:gj n y2 d)(a:Nat)(m:a<y2.length) :
  ∃g,(d 6).ao=some ⟨g,0,none⟩/\y2.length<=(d 6).cap/\(d 6).cap<=9223372036854775807/\n.cell? ⟨g,a*8,none⟩=some (.int .i64 y2[a].kind)/\n.cell? ⟨g,a*8+1,none⟩=some (.string y2[a].label)/\n.cell? ⟨g,a*8+2,none⟩=some (.slice (d (10+2*a)).ao y2[a].U6.length (d (10+2*a)).cap) /\
  n.cell? ⟨g,a*8+3,none⟩=some (.slice (d (11+2*a)).ao y2[a].Vh.length (d (11+2*a)).cap)/\n.cell? ⟨g,a*8+4,none⟩=some (.string y2[a].fin.file)/\n.cell? ⟨g,a*8+5,none⟩=some (.int .i64 y2[a].fin.line) /\
  n.cell? ⟨g,a*8+6,none⟩=some (.int .i64 y2[a].fin.col)/\n.cell? ⟨g,a*8+7,none⟩=some (.int .i64 y2[a].til):=by
 rcases h.own.Vm with ⟨_,k,_⟩ | ⟨g,f,b,p,i,e,-⟩
 ·have:y2.length=0:=k
  omega
 ·have c:=fun j (l:j<8) v (o:(JO y2[a] (d (10+2*a)) (d (11+2*a)))[j]?=some v)=>h.own.cell b (a*8+j) v ((GP y2 d a m j l).trans o)
  exact⟨g,b,i,by unfold maxLen at e;exact e,c 0 (by omega) _ rfl,c 1 (by omega) _ rfl,c 2 (by omega) _ rfl,c 3 (by omega) _ rfl,c 4 (by omega) _ rfl,c 5 (by omega) _ rfl,c 6 (by omega) _ rfl,c 7 (by omega) _ rfl⟩
set_option maxRecDepth 512
theorem eM(h:dF x i H z4 T) :
  Calls prog 80 #[.pointer (some ⟨i,H,none⟩)] x fun e a=>e=.returned (.int .i64 z4.length)/\a=x:=by
 have c:=h.at;go_enter func80,ntmps80;go_wp2;go_ret;exact⟨rfl,rfl⟩
def ee(s:St)(a b:Hd):Value :=
 .agg #[.int .i64 s.kind,.string s.label,.slice a.ao s.U6.length a.cap,.slice b.ao s.Vh.length b.cap,.string s.fin.file,.int .i64 s.fin.line,.int .i64 s.fin.col,.int .i64 s.til]
theorem a9(h:dF x y i z4 T)(f:H<z4.length) :
  Calls prog 97 #[.pointer (some ⟨y,i,none⟩),.int .i64 H] x fun e j=>e=.returned (ee z4[H] (T (10+2*H)) (T (11+2*H)))/\ab [] x j:=by
 have c:=h.at;have b:=h.lt;obtain⟨g,a,s,t,k,l,m,n,o,p,q,r⟩:=h.Vn.stmt H f;have d:=h.Vn.own.lt (k:=g) (by unfold Hd.blk;rw[a];rfl);rw[a]at c;unfold ee;clear h;go_enter func97,ntmps97;go_wp2
 exact QY (v:=.agg #[.int .i64 z4[H].kind,.string z4[H].label,.slice (T (10+2*H)).ao z4[H].U6.length (T (10+2*H)).cap,.slice (T (11+2*H)).ao z4[H].Vh.length (T (11+2*H)).cap,.string z4[H].fin.file,.int .i64 z4[H].fin.line,.int .i64 z4[H].fin.col,.int .i64 z4[H].til])
  (by simp[results,results97,go_sem]) rfl ⟨rfl,(ab.refl _ _).alloc _⟩
def g7(l:List St)(n a:Nat):Bool:=match l[n]? with | some s=>decide (n<a)&&(s.til==0||decide (a<s.til)) | none=>false
theorem Nx(h:x4<z4.length):g7 z4 x4 zt=(decide (x4<zt)&&(z4[x4].til==0||decide (zt<z4[x4].til))):=by
 unfold g7;rw[QP h]
theorem gF(h:dF x z7 y z4 T)(k:i<z4.length) :
  Calls prog 187 #[.pointer (some ⟨z7,y,none⟩),.int .i64 i,.int .i64 H] x fun e u=>e=.returned (.bool (g7 z4 i H))/\u=x:=by
 have c:=h.at;obtain⟨g,s,w,z,l,m,n,o,p,q,r,v⟩:=h.Vn.stmt i k;clear l m n o p q r;rw[s]at c;have b:Hid _:=Nx z4 i H k;generalize z4[i].til=t at *;clear h
 by_cases f:i<H
 ·cases j:((t:Int)==0)
  ·have a:(t==0)=false:=by cases t <;> simp at j ⊢
   have d:Hid (g7 z4 i H=decide (H<t)):=by show _=_;rw[b.out,a];simp[f]
   clear b;go_enter func187,ntmps187;go_wp2;go_ret;exact⟨aD (by rw[d.out]),rfl⟩
  ·have a:(t==0)=true:=by cases t <;> simp at j ⊢ <;> omega
   have d:Hid (g7 z4 i H=true):=by show _=_;rw[b.out,a];simp[f]
   clear b;go_enter func187,ntmps187;go_wp2;go_ret;exact⟨aD (by rw[d.out]),rfl⟩
 ·have d:Hid (g7 z4 i H=false):=by show _=_;rw[b.out];simp[f]
  clear b;go_enter func187,ntmps187;go_wp2;go_ret;exact⟨aD (by rw[d.out]),rfl⟩
def oE(l:List St)(lab:ByteArray)(a n:Nat):Bool:=match l[n]? with | some s=>(s.label.toList==lab.toList) && !(s.kind==1)&&g7 l n a | none=>false
def my(l:List St)(lab:ByteArray)(a:Nat):Option Nat:=(List.range l.length).find? (oE l lab a)
def nB:Option Nat->Int
 | some n=>n
 | none=>-1
theorem LI(h:zt<z4.length):oE z4 l x4 zt=((z4[zt].label.toList==l.toList) && !(z4[zt].kind==1)&&g7 z4 zt x4):=by
 unfold oE;rw[QP h]
theorem nV(c:I<f)(d:x6 I=true)(a:∀i,i<I->x6 i=false):(List.range f).find? x6=some I :=
 Sj.2 ⟨d,by simpa using c,fun j b=>by simp[a j b]⟩
theorem mI(a:∀i,i<f->x6 i=false):(List.range f).find? x6=none :=
 Sk.2 (fun i b=>by simp[a i (by simpa using b)])
theorem iq(h:dF x y i z4 T)(M:z4.length<=1073741824) :
  Calls prog 185 #[.pointer (some ⟨y,i,none⟩),.string yd,.int .i64 H] x fun e D=>e=.returned (.int .i64 (nB (my z4 yd H)))/\D=x:=by
 have c:=h.at;go_enter func185,ntmps185;go_wp2
 go_loopg [7] z4.length (fun g a wr=>∃k:Nat,k<=z4.length/\g=z4.length-k/\a=.int .i64 k/\Hid (∀a,a<k->oE z4 yd H a=false)/\wr=x)
 case atStart=>exact⟨0,by omega,by omega,rfl,fun a r=>by omega,rfl⟩
 case round =>
  obtain⟨k,L,K,rfl,b,rfl⟩:=hrel
  by_cases d:k<z4.length
  ·obtain⟨g,A,I,J,F,G,s,t,u,v,w,z⟩:=h.Vn.stmt k d
   clear s t u v w z;rw[A]at c;have j:Hid _:=LI z4 yd H k d;have o:Hid (dF wr y i z4 T):=h;generalize z4[k].label=C at *;generalize z4[k].kind=n at *
   have next:Hid (oE z4 yd H k=false->∀a,a<k+1->oE z4 yd H a=false):=by
    intro B a r
    by_cases e:a=k
    ·subst e;exact B
    ·exact b.out a (by omega)
   cases p:(C.toList==yd.toList)
   ·have f:Hid (oE z4 yd H k=false):=by show _=_;rw[j.out,p];simp
    clear j h;go_wp2
    go_roundg (z4.length-(k+1))
    case measure=>omega
    case rel=>exact⟨k+1,by omega,rfl,by go_num,next.out f.out,rfl⟩
   ·cases l:(n==1)
    ·have m:(n != 1)=true:=by simp[bne,l]
     cases q:g7 z4 k H
     ·have f:Hid (oE z4 yd H k=false):=by show _=_;rw[j.out,q];simp
      clear j h;go_wp2_with (go_at_call 187;refine(gF y i k H z4 T _ o.out d).mono ?_;rintro e E ⟨rfl,rfl⟩)
      go_roundg (z4.length-(k+1))
      case measure=>omega
      case rel=>exact⟨k+1,by omega,rfl,by go_num,next.out f.out,rfl⟩
     ·have f:Hid (my z4 yd H=some k):=nV d (by rw[j.out,p,l,q];rfl) b.out
      clear j h;go_wp2_with (go_at_call 187;refine(gF y i k H z4 T _ o.out d).mono ?_;rintro e E ⟨rfl,rfl⟩);go_ret;exact⟨QN (by rw[f.out];rfl),rfl⟩
    ·have m:(n != 1)=false:=by simp[bne,l]
     have f:Hid (oE z4 yd H k=false):=by show _=_;rw[j.out,l];simp
     clear j h;go_wp2
     go_roundg (z4.length-(k+1))
     case measure=>omega
     case rel=>exact⟨k+1,by omega,rfl,by go_num,next.out f.out,rfl⟩
  ·have f:Hid (my z4 yd H=none):=mI (fun a r=>b.out a (by omega))
   clear h;go_wp2;go_ret;exact⟨QN (by rw[f.out];rfl),rfl⟩
def jT(w:World)(h:Hd)(l:List ByteArray):Prop :=
 l=[]∨∃g off cur t,h.ao=some ⟨g,off,none⟩/\w.heap[g]?=some (.cells cur t (0,0))/\(∀j x,l[j]?=some x->cur[off+j]?=some (.string x))/\l.length<=h.cap/\h.cap<=9223372036854775807
theorem aw.view(o:aw n x3 (aB yt)):jT n x3 yt:=by
 rcases o.Vm with ⟨_,k,_⟩ | ⟨g,a,e,f,h,c,m,i⟩
 ·exact Q1 (Rk k)
 ·refine QV ⟨g,0,a,_,e,f,?_,h,by unfold maxLen at c;exact c⟩
  intro j x d;have l:j<yt.length:=(Q8.1 d).1;have b:a.toList.take (yt.length*1)=cN yt:=i;have:(cN yt)[j]?=some (.string x):=by simp[cN,d]
  rw[<-b,Tj]at this;rw[SJ];simp at this;exact this.2
theorem jT.kept(v:jT n x3 yt)(k:ab y7 n z5)(f:∀x,x3.blk=some x->x∉y7):jT z5 x3 yt:=by
 rcases v with v | ⟨g,b,a,t,c,d,e⟩
 ·exact Q1 v
 ·exact QV ⟨g,b,a,t,c,k.get d (f g (by unfold Hd.blk;rw[c];rfl)),e⟩
theorem jT.Vb(v:jT n x3 yt)(k:ab [] n z5):jT z5 x3 yt:=v.kept k (by simp)
theorem qs(h:x1=x2):Ending.returned (.string x1)=.returned (.string x2):=by rw[h]
theorem Ld(q:jT x yu y4)(p:y4.length<=1073741824) :
  Calls prog 218 #[.slice yu.ao y4.length yu.cap,.string l] x fun e r=>e=.returned (.bool (aJ y4 l))/\r=x:=by
 obtain⟨s,m⟩:=yu
 rcases q with rfl | ⟨g,d,n,t,h,o,f,v,w⟩
 ·clear p
  go_enter func218,ntmps218;go_wp2;refine SZ 1 ?_;rw[Tr];go_wp2;go_ret;exact⟨rfl,rfl⟩
 ·simp only at h
  subst h;go_enter func218,ntmps218;go_wp2
  go_loopg [5] y4.length (fun g i wr=>∃k:Nat,k<=y4.length/\g=y4.length-k/\i=.int .i64 k/\Hid (aJ y4 l=aJ (y4.drop k) l)/\wr=x)
  case atStart=>exact⟨0,by omega,by omega,rfl,rfl,rfl⟩
  case round =>
   obtain⟨k,z,y,rfl,b,rfl⟩:=hrel
   by_cases a:k<y4.length
   ·have u:wr.cell? ⟨g,d+k,none⟩=some (.string y4[k]):=(aa o (d+k)).trans (f k y4[k] (QP a))
    cases j:((y4[k]).toList==l.toList)
    ·have c:Hid (aJ y4 l=aJ (y4.drop (k+1)) l):=BU y4 l k a b.out j
     clear b f;go_wp2
     go_roundg (y4.length-(k+1))
     case measure=>omega
     case rel=>exact⟨k+1,by omega,rfl,by go_num,c,rfl⟩
    ·have c:Hid (aJ y4 l=true):=Gn y4 l k a b.out j
     clear b f;go_wp2;go_ret;exact⟨aD c.out.symm,rfl⟩
   ·have c:Hid (aJ y4 l=false):=BZ y4 l k a b.out
    clear b f;go_wp2;go_ret;exact⟨aD c.out.symm,rfl⟩
def iz(s:St):ByteArray:=s.U6.getD 0 ⟨#[]⟩
def aL(s:St):ByteArray:=if(s.kind==2)=true/\2<=s.U6.length then s.U6.getD 1 ⟨#[]⟩ else⟨#[]⟩
theorem qm(h:zt<y4.length):y4.getD zt ⟨#[]⟩=y4[zt]:=by rw[QQ,QP h];rfl
theorem AI(p:jT x yr y1.U6)(o:y1.U6.length<=1073741824) :
  Calls prog 191 #[ee y1 yr yu] x fun e q=>e=.returned (.string (iz y1))/\ab [] x q:=by
 unfold ee;obtain⟨r,l⟩:=yr
 rcases p with f | ⟨g,c,m,t,i,j,k,u,v⟩
 ·have a:Hid (iz y1=⟨#[]⟩):=by show _=_;unfold iz;rw[f];rfl
  rw[f];simp only[List.length_nil];clear o f;go_enter func191,ntmps191;go_wp2;go_ret;exact⟨qs a.out.symm,(ab.refl _ _).alloc _⟩
 ·simp only at i
  subst i
  by_cases d:y1.U6.length=0
  ·have h:((y1.U6.length:Int)==0)=true:=by simp[d]
   have a:Hid (iz y1=⟨#[]⟩):=by show _=_;unfold iz;rw[Rk d];rfl
   clear d;go_enter func191,ntmps191;go_wp2;go_ret;exact⟨qs a.out.symm,(ab.refl _ _).alloc _⟩
  ·have h:((y1.U6.length:Int)==0)=false:=Rh.2 (by omega)
   have b:0<y1.U6.length:=by omega
   have a:Hid (iz y1=y1.U6[0]):=qm _ _ b;have s:x.cell? ⟨g,c,none⟩=some (.string y1.U6[0]):=(aa j c).trans (k 0 _ (QP b));have n:=ae j;clear k d;go_enter func191,ntmps191;go_wp2;go_ret;exact⟨qs a.out.symm,(ab.refl _ _).alloc _⟩
theorem mq(o:jT x yr y1.U6)(v:y1.U6.length<=1073741824) :
  Calls prog 189 #[ee y1 yr yu] x fun e p=>e=.returned (.string (aL y1))/\ab [] x p:=by
 unfold ee
 cases d:(y1.kind==2)
 ·have f:(y1.kind != 2)=true:=by simp[bne,d]
  have b:Hid (aL y1=⟨#[]⟩):=by show _=_;unfold aL;rw[d];simp
  go_enter func189,ntmps189;go_wp2;go_ret;exact⟨qs b.out.symm,(ab.refl _ _).alloc _⟩
 ·have f:(y1.kind != 2)=false:=by simp[bne,d]
  by_cases w:y1.U6.length<2
  ·have b:Hid (aL y1=⟨#[]⟩):=by show _=_;unfold aL;rw[QT (by omega)]
   go_enter func189,ntmps189;go_wp2;go_ret;exact⟨qs b.out.symm,(ab.refl _ _).alloc _⟩
  ·have a:1<y1.U6.length:=by omega
   obtain⟨q,k⟩:=yr
   rcases o with m | ⟨g,c,l,t,h,i,j,s,u⟩
   ·rw[m]at a;simp at a
   ·simp only at h
    subst h;have b:Hid (aL y1=y1.U6[1]):=by show _=_;unfold aL;rw[QW ⟨d,by omega⟩];exact qm _ _ a
    have r:x.cell? ⟨g,c+1,none⟩=some (.string y1.U6[1]):=(aa i (c+1)).trans (j 1 _ (QP a));have n:=ae i;clear j;go_enter func189,ntmps189;go_wp2;go_ret;exact⟨qs b.out.symm,(ab.refl _ _).alloc _⟩
def pN(s:St)(syms:List ByteArray):Bool:=if(s.kind==2)=true then aJ syms (aL s) else(s.kind==3)
theorem u9(b:Hd)(l:List ByteArray)(w:World)(o:jT w yr y1.U6)(i:jT w b l)(n:y1.U6.length<=1073741824)(g:l.length<=1073741824) :
  Calls prog 188 #[ee y1 yr yu,.slice b.ao l.length b.cap] w fun e c=>e=.returned (.bool (pN y1 l))/\ab [] w c:=by
 have j:=fun(c:World) (h:jT c yr y1.U6)=>mq y1 yr yu c h n
 have a:Hid _:=j;unfold ee at a ⊢;clear j
 cases m:(y1.kind==2)
 ·have d:Hid (pN y1 l=(y1.kind==3)):=by show _=_;unfold pN;rw[m];simp
  go_enter func188,ntmps188;go_wp2;go_ret;exact⟨aD (by rw[d.out]),(ab.refl _ _).alloc _⟩
 ·have d:Hid (pN y1 l=aJ l (aL y1)):=by show _=_;unfold pN;rw[m];simp
  go_enter func188,ntmps188;go_wp2_with fail;refine(a.out _ (by exact o.Vb ((ab.refl [] _).alloc _))).mono ?_;rintro e p ⟨rfl,f⟩;have k:=((ab.refl [] w).alloc _).trans f;go_wp2_with fail;refine(Ld b l _ _ (by exact i.Vb k) g).mono ?_;rintro e q ⟨rfl,rfl⟩;go_wp2;go_ret;exact⟨aD (by rw[d.out]),k⟩
end Go.Proofs.YtpddjjabfbfifaaGreat

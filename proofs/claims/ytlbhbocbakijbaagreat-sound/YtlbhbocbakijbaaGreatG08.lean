import Derived.Test.YtlbhbocbakijbaaGreatG07
namespace Go.Proofs.YtlbhbocbakijbaaGreat
open Go.RowKit
set_option maxHeartbeats 0
def f8(d:Db)(x:ByteArray):Int:=if aZ d.active x=false then 18 else if aZ d.symbols x=true then 19 else 0
def dA(d:Db)(x:ByteArray):Int:=if aZ d.constants x=false then 17 else 0
def dz(d:Db)(x:ByteArray):Int:=if 1<d.symbols.length then 16 else if aZ d.active x=false then 18 else if aZ d.typed x=true then 20 else 0
def dt(d:Db)(x:ByteArray):Int:=if aZ d.constants x=true then 0 else if aZ d.active x=false then 21 else if aZ d.typed x=false then 22 else 0
def aJ(d:Db)(x:ByteArray):Int :=
 if(d.kind==7)=true then(if aZ d.symbols x=true∨df d x=true then 13 else 0)
 else if(d.kind==8)=true then(if aZ d.symbols x=true∨du d x=true then 13 else 0)
 else if(d.kind==1)=true then f8 d x
 else if d.symbols.length=0 then dA d x
 else if(d.kind==2)=true then dz d x
 else dt d x
theorem l9(b t o:Nat)(pre post:List Value)(d:Db)(H:Nat->Hd)(x:ByteArray)(w:World)(h:aE w b t pre post d H)(ho:pre.length=o)(hs:dF d 1073741824) :
  Calls Tryz.prog 166 #[.pointer (some ⟨b,o,none⟩),.string x] w fun e w'=>e=.returned (.int .i64 (f8 d x))/\w'=w:=by
 obtain⟨q0,q1,q2,q3,q4,q5,q6,q7,q8,q9,q10,q11,q12⟩:=h.cells o ho;have hsl:=hs.symbols
 cases h1:aZ d.active x <;> cases h2:aZ d.symbols x
 all_goals
  go_enter Tryz.func166,Tryz.ntmps166;go_wp2_with (first | (go_at_call 182;refine(gc b t o pre post d H x _ (by exact h) ho hs.active).mono ?_;rintro e w1 ⟨rfl,rfl⟩) | (go_at_call 163;refine(cV (H 8) d.symbols x _ (by exact h.own 8) hs.symbols).mono ?_;rintro e w1 ⟨rfl,rfl⟩));go_ret;exact⟨ar (by simp[f8,h1,h2]),rfl⟩
theorem md(b t o:Nat)(pre post:List Value)(d:Db)(H:Nat->Hd)(x:ByteArray)(w:World)(h:aE w b t pre post d H)(ho:pre.length=o)(hs:dF d 1073741824) :
  Calls Tryz.prog 167 #[.pointer (some ⟨b,o,none⟩),.string x] w fun e w'=>e=.returned (.int .i64 (dA d x))/\w'=w:=by
 obtain⟨q0,q1,q2,q3,q4,q5,q6,q7,q8,q9,q10,q11,q12⟩:=h.cells o ho;have hsl:=hs.symbols
 cases h1:aZ d.constants x
 all_goals
  go_enter Tryz.func167,Tryz.ntmps167;go_wp2_with (first | (go_at_call 183;refine(iy b t o pre post d H x _ (by exact h) ho hs.constants).mono ?_;rintro e w1 ⟨rfl,rfl⟩));go_ret;exact⟨ar (by simp[dA,h1]),rfl⟩
theorem ma(b t o:Nat)(pre post:List Value)(d:Db)(H:Nat->Hd)(x:ByteArray)(w:World)(h:aE w b t pre post d H)(ho:pre.length=o)(hs:dF d 1073741824) :
  Calls Tryz.prog 168 #[.pointer (some ⟨b,o,none⟩),.string x] w fun e w'=>e=.returned (.int .i64 (dz d x))/\w'=w:=by
 obtain⟨q0,q1,q2,q3,q4,q5,q6,q7,q8,q9,q10,q11,q12⟩:=h.cells o ho;have hsl:=hs.symbols
 by_cases h0:1<d.symbols.length
 ·go_enter Tryz.func168,Tryz.ntmps168
  go_wp2_with (first | (go_at_call 182;refine(gc b t o pre post d H x _ (by exact h) ho hs.active).mono ?_;rintro e w1 ⟨rfl,rfl⟩) | (go_at_call 184;refine(iV b t o pre post d H x _ (by exact h) ho hs.typed).mono ?_;rintro e w1 ⟨rfl,rfl⟩));go_ret;exact⟨ar (by simp[dz,h0]),rfl⟩
 ·cases h1:aZ d.active x <;> cases h2:aZ d.typed x
  all_goals
   go_enter Tryz.func168,Tryz.ntmps168;go_wp2_with (first | (go_at_call 182;refine(gc b t o pre post d H x _ (by exact h) ho hs.active).mono ?_;rintro e w1 ⟨rfl,rfl⟩) | (go_at_call 184;refine(iV b t o pre post d H x _ (by exact h) ho hs.typed).mono ?_;rintro e w1 ⟨rfl,rfl⟩));go_ret;exact⟨ar (by simp[dz,h0,h1,h2]),rfl⟩
theorem lo(b t o:Nat)(pre post:List Value)(d:Db)(H:Nat->Hd)(x:ByteArray)(w:World)(h:aE w b t pre post d H)(ho:pre.length=o)(hs:dF d 1073741824) :
  Calls Tryz.prog 169 #[.pointer (some ⟨b,o,none⟩),.string x] w fun e w'=>e=.returned (.int .i64 (dt d x))/\w'=w:=by
 obtain⟨q0,q1,q2,q3,q4,q5,q6,q7,q8,q9,q10,q11,q12⟩:=h.cells o ho;have hsl:=hs.symbols
 cases h0:aZ d.constants x
 ·cases h1:aZ d.active x <;> cases h2:aZ d.typed x
  all_goals
   go_enter Tryz.func169,Tryz.ntmps169;go_wp2_with (first | (go_at_call 183;refine(iy b t o pre post d H x _ (by exact h) ho hs.constants).mono ?_;rintro e w1 ⟨rfl,rfl⟩) | (go_at_call 182;refine(gc b t o pre post d H x _ (by exact h) ho hs.active).mono ?_;rintro e w1 ⟨rfl,rfl⟩) | (go_at_call 184;refine(iV b t o pre post d H x _ (by exact h) ho hs.typed).mono ?_;rintro e w1 ⟨rfl,rfl⟩));go_ret;exact⟨ar (by simp[dt,h0,h1,h2]),rfl⟩
 ·go_enter Tryz.func169,Tryz.ntmps169
  go_wp2_with (first | (go_at_call 183;refine(iy b t o pre post d H x _ (by exact h) ho hs.constants).mono ?_;rintro e w1 ⟨rfl,rfl⟩) | (go_at_call 182;refine(gc b t o pre post d H x _ (by exact h) ho hs.active).mono ?_;rintro e w1 ⟨rfl,rfl⟩) | (go_at_call 184;refine(iV b t o pre post d H x _ (by exact h) ho hs.typed).mono ?_;rintro e w1 ⟨rfl,rfl⟩));go_ret;exact⟨ar (by simp[dt,h0]),rfl⟩
theorem jN(b t o:Nat)(pre post:List Value)(d:Db)(H:Nat->Hd)(x:ByteArray)(w:World)(h:aE w b t pre post d H)(ho:pre.length=o)(hs:dF d 1073741824) :
  Calls Tryz.prog 147 #[.pointer (some ⟨b,o,none⟩),.string x] w fun e w'=>e=.returned (.int .i64 (aJ d x))/\w'=w:=by
 obtain⟨q0,q1,q2,q3,q4,q5,q6,q7,q8,q9,q10,q11,q12⟩:=h.cells o ho;have hsl:=hs.symbols
 cases k2:(d.kind==7)
 ·cases k3:(d.kind==8)
  ·cases k4:(d.kind==1)
   ·by_cases hz:d.symbols.length=0
    ·have HT:Hid (aJ d x=dA d x):=by show aJ d x=_;simp only[aJ,k2,k3,k4,hz];simp
     have hz1:((d.symbols.length:Int)==0)=true:=by simp[hz]
     clear hz;go_enter Tryz.func147,Tryz.ntmps147;go_wp2_with (first | (go_at_call 167;refine(md b t o pre post d H x _ (by exact h) ho hs).mono ?_;rintro e w1 ⟨rfl,rfl⟩));go_ret;exact⟨ar (by rw[HT.out]),rfl⟩
    ·have hz1:((d.symbols.length:Int)==0)=false:=beq_eq_false_iff_ne.2 (by omega)
     cases k5:(d.kind==2)
     ·have HT:Hid (aJ d x=dt d x):=by show aJ d x=_;simp[aJ,k2,k3,k4,k5,hz]
      clear hz;go_enter Tryz.func147,Tryz.ntmps147;go_wp2_with (first | (go_at_call 169;refine(lo b t o pre post d H x _ (by exact h) ho hs).mono ?_;rintro e w1 ⟨rfl,rfl⟩));go_ret;exact⟨ar (by rw[HT.out]),rfl⟩
     ·have HT:Hid (aJ d x=dz d x):=by show aJ d x=_;simp[aJ,k2,k3,k4,k5,hz]
      clear hz;go_enter Tryz.func147,Tryz.ntmps147;go_wp2_with (first | (go_at_call 168;refine(ma b t o pre post d H x _ (by exact h) ho hs).mono ?_;rintro e w1 ⟨rfl,rfl⟩));go_ret;exact⟨ar (by rw[HT.out]),rfl⟩
   ·have HT:Hid (aJ d x=f8 d x):=by show aJ d x=_;simp[aJ,k2,k3,k4]
    go_enter Tryz.func147,Tryz.ntmps147;go_wp2_with (first | (go_at_call 166;refine(l9 b t o pre post d H x _ (by exact h) ho hs).mono ?_;rintro e w1 ⟨rfl,rfl⟩));go_ret;exact⟨ar (by rw[HT.out]),rfl⟩
  ·cases h1:aZ d.symbols x <;> cases h2:du d x
   all_goals
    go_enter Tryz.func147,Tryz.ntmps147;go_wp2_with (first | (go_at_call 163;refine(cV (H 8) d.symbols x _ (by exact h.own 8) hs.symbols).mono ?_;rintro e w1 ⟨rfl,rfl⟩) | (go_at_call 165;refine(sC b t o pre post d H x _ (by exact h) ho hs).mono ?_;rintro e w1 ⟨rfl,rfl⟩));go_ret;exact⟨ar (by simp[aJ,k2,k3,h1,h2]),rfl⟩
 ·cases h1:aZ d.symbols x <;> cases h2:df d x
  all_goals
   go_enter Tryz.func147,Tryz.ntmps147;go_wp2_with (first | (go_at_call 163;refine(cV (H 8) d.symbols x _ (by exact h.own 8) hs.symbols).mono ?_;rintro e w1 ⟨rfl,rfl⟩) | (go_at_call 164;refine(gY b t o pre post d H x _ (by exact h) ho hs).mono ?_;rintro e w1 ⟨rfl,rfl⟩));go_ret;exact⟨ar (by simp[aJ,k2,h1,h2]),rfl⟩
theorem dF.mono{d:Db}{N M:Nat}(h:dF d N)(hl:N<=M):dF d M :=
 ⟨Nat.le_trans h.labels hl,Nat.le_trans h.constants hl,Nat.le_trans h.variables hl,Nat.le_trans h.active hl,Nat.le_trans h.typed hl,Nat.le_trans h.blocks hl,Nat.le_trans h.sts hl,Nat.le_trans h.rbl hl,Nat.le_trans h.symbols hl,Nat.le_trans h.proof hl⟩
theorem aE.kind{w:World}{b t:Nat}{pre post:List Value}{d:Db}{H:Nat->Hd}(h:aE w b t pre post d H)(o:Nat)(ho:pre.length=o)(k:Int) :
  Hid (aE (w.setCell ⟨b,o+8,none⟩ (.int .i64 k)) b t pre post { d with kind:=k } H/\ag b w H (w.setCell ⟨b,o+8,none⟩ (.int .i64 k)) H) :=
 h.set (d':={ d with kind:=k }) o 8 ho (Ab d H k) _ (by omega) rfl
theorem aE.lab{w:World}{b t:Nat}{pre post:List Value}{d:Db}{H:Nat->Hd}(h:aE w b t pre post d H)(o:Nat)(ho:pre.length=o)(k:ByteArray) :
  Hid (aE (w.setCell ⟨b,o+9,none⟩ (.string k)) b t pre post { d with label:=k } H/\ag b w H (w.setCell ⟨b,o+9,none⟩ (.string k)) H) :=
 h.set (d':={ d with label:=k }) o 9 ho (wY d H k) _ (by omega) rfl
theorem aE.inProof{w:World}{b t:Nat}{pre post:List Value}{d:Db}{H:Nat->Hd}(h:aE w b t pre post d H)(o:Nat)(ho:pre.length=o)(k:Bool) :
  Hid (aE (w.setCell ⟨b,o+11,none⟩ (.bool k)) b t pre post { d with inProof:=k } H/\ag b w H (w.setCell ⟨b,o+11,none⟩ (.bool k)) H) :=
 h.set (d':={ d with inProof:=k }) o 11 ho (sY d H k) _ (by omega) rfl
theorem aE.forget{w:World}{b t:Nat}{pre post:List Value}{d:Db}{H:Nat->Hd}(h:aE w b t pre post d H)(o:Nat)(ho:pre.length=o) :
  aE (w.setCell ⟨b,o+10,none⟩ (.slice none 0 0)) b t pre post { d with symbols:=[] } (cG H 8 ⟨none,0⟩)/\ag b w H (w.setCell ⟨b,o+10,none⟩ (.slice none 0 0)) (cG H 8 ⟨none,0⟩) :=
 h.put (d':={ d with symbols:=[] }) o 10 ho 8 (by omega) ⟨none,0⟩ ⟨by simp[aF,am,strs],Or.inl ⟨by simp[aF,am],by simp[aF,am]⟩⟩ (World.grownBy.refl _ _) (Or.inl rfl) (mO d H []) _ (by omega) (by simp[bu,cG])
theorem aE.noProof{w:World}{b t:Nat}{pre post:List Value}{d:Db}{H:Nat->Hd}(h:aE w b t pre post d H)(o:Nat)(ho:pre.length=o) :
  aE (w.setCell ⟨b,o+12,none⟩ (.slice none 0 0)) b t pre post { d with proof:=[] } (cG H 9 ⟨none,0⟩)/\ag b w H (w.setCell ⟨b,o+12,none⟩ (.slice none 0 0)) (cG H 9 ⟨none,0⟩) :=
 h.put (d':={ d with proof:=[] }) o 12 ho 9 (by omega) ⟨none,0⟩ ⟨by simp[aF,dZ,jc],Or.inl ⟨by simp[aF,dZ],by simp[aF,dZ]⟩⟩ (World.grownBy.refl _ _) (Or.inl rfl) (p6 d H []) _ (by omega) (by simp[bu,cG])
def aG(d:Db)(x:ByteArray):Int×Db :=
 if(x.toList == [36,102])=true then(0,{ d with kind:=2 })
 else if(x.toList == [36,101])=true then(0,{ d with kind:=3 })
 else if(x.toList == [36,97])=true then(0,{ d with kind:=4 })
 else if(x.toList == [36,112])=true then(0,{ d with kind:=5 })
 else(14,d)
def bF(d:Db):Int×Db:=if d.symbols.length=0 then(15,d) else(0,{ d with inProof:=true })
def aX(d:Db)(x:ByteArray):Int×Db :=
 if dh x=true then(8,d) else if iz x=false then(12,d) else if df d x=true then(13,d)
 else(0,{ d with labels:=d.labels++[x],label:=x,kind:=6 })
def iK(d:Db)(p:Pl):Int×Db :=
 if(d.symbols.length:Int)<dX d then(15,d)
 else if(d.kind==5)=true/\d.inProof=false then(23,d)
 else(0,{ bX d p with kind:=0,label:=⟨#[]⟩,symbols:=[],inProof:=false,proof:=[] })
def eV(d:Db)(q:Nat×Nat):Db :=
 match d.rbl.getLast? with
 | none=>b6 d d.blocks.dropLast q
 | some x=>{ b6 d d.blocks.dropLast q with rbl:=d.rbl.dropLast,sts:=cr d.sts x }
def az(d:Db)(x:ByteArray):Int×Db :=
 if(x.toList == [36,123])=true then(0,{ d with blocks:=d.blocks++[(d.active.length,d.typed.length)],rbl:=d.rbl++[d.sts.length] })
 else if(x.toList == [36,125])=true then(match d.blocks.getLast? with | none=>(9,d) | some p=>(0,eV d p))
 else if(x.toList == [36,99])=true then(if 0<d.blocks.length then(10,d) else(0,{ d with kind:=7 }))
 else if(x.toList == [36,118])=true then(0,{ d with kind:=8 })
 else if(x.toList == [36,100])=true then(0,{ d with kind:=1 })
 else if(x.toList == [36,102])=true∨(x.toList == [36,101])=true∨(x.toList == [36,97])=true∨(x.toList == [36,112])=true then(11,d)
 else aX d x
def aS(d:Db)(x:ByteArray)(p:Pl):Int×Db :=
 if(d.kind==0)=true then az d x
 else if(d.kind==6)=true then aG d x
 else if(x.toList == [36,46])=true then iK d p
 else if(x.toList == [36,61])=true/\(d.kind==5)=true/\d.inProof=false then bF d
 else if dh x=true then(8,d)
 else if d.inProof=true then(0,{ d with proof:=d.proof++[(x,p)] })
 else if(aJ d x==0)=true then(0,{ d with symbols:=d.symbols++[x] })
 else(aJ d x,d)
set_option maxRecDepth 100000 in
theorem oi(b t o:Nat)(pre post:List Value)(d:Db)(H:Nat->Hd)(x:ByteArray)(w:World)(h:aE w b t pre post d H)(ho:pre.length=o) :
  Calls Tryz.prog 144 #[.pointer (some ⟨b,o,none⟩),.string x] w fun e w'=>e=.returned (.int .i64 (aG d x).1)/\∃H',aE w' b t pre post (aG d x).2 H'/\ag b w H w' H':=by
 obtain⟨q0,q1,q2,q3,q4,q5,q6,q7,q8,q9,q10,q11,q12⟩:=h.cells o ho;have hfr:=h.free
 cases e102:(x.toList == [36,102])
 ·cases e101:(x.toList == [36,101])
  ·cases e97:(x.toList == [36,97])
   ·cases e112:(x.toList == [36,112])
    ·have HT:Hid (aG d x=(14,d)):=by show aG d x=_;simp only[aG,e102,e101,e97,e112];simp
     go_enter Tryz.func144,Tryz.ntmps144;go_wp2;go_ret;exact⟨ar (by rw[HT.out]),H,by rw[HT.out];exact h,ag.refl _ _ _⟩
    ·have HT:Hid (aG d x=(0,{ d with kind:=5 })):=by show aG d x=_;simp only[aG,e102,e101,e97,e112];simp
     have HK:=h.kind o ho 5;go_enter Tryz.func144,Tryz.ntmps144;go_wp2;go_ret;exact⟨ar (by rw[HT.out]),H,by rw[HT.out];exact HK.out.1,HK.out.2⟩
   ·have HT:Hid (aG d x=(0,{ d with kind:=4 })):=by show aG d x=_;simp only[aG,e102,e101,e97];simp
    have HK:=h.kind o ho 4;go_enter Tryz.func144,Tryz.ntmps144;go_wp2;go_ret;exact⟨ar (by rw[HT.out]),H,by rw[HT.out];exact HK.out.1,HK.out.2⟩
  ·have HT:Hid (aG d x=(0,{ d with kind:=3 })):=by show aG d x=_;simp only[aG,e102,e101];simp
   have HK:=h.kind o ho 3;go_enter Tryz.func144,Tryz.ntmps144;go_wp2;go_ret;exact⟨ar (by rw[HT.out]),H,by rw[HT.out];exact HK.out.1,HK.out.2⟩
 ·have HT:Hid (aG d x=(0,{ d with kind:=2 })):=by show aG d x=_;simp only[aG,e102];simp
  have HK:=h.kind o ho 2;go_enter Tryz.func144,Tryz.ntmps144;go_wp2;go_ret;exact⟨ar (by rw[HT.out]),H,by rw[HT.out];exact HK.out.1,HK.out.2⟩
set_option maxRecDepth 100000 in
theorem oG(b t o:Nat)(pre post:List Value)(d:Db)(H:Nat->Hd)(w:World)(h:aE w b t pre post d H)(ho:pre.length=o) :
  Calls Tryz.prog 146 #[.pointer (some ⟨b,o,none⟩)] w fun e w'=>e=.returned (.int .i64 (bF d).1)/\∃H',aE w' b t pre post (bF d).2 H'/\ag b w H w' H':=by
 obtain⟨q0,q1,q2,q3,q4,q5,q6,q7,q8,q9,q10,q11,q12⟩:=h.cells o ho;have hfr:=h.free
 by_cases hz:d.symbols.length=0
 ·have HT:Hid (bF d=(15,d)):=by show bF d=_;simp only[bF,hz];simp
  have hz1:((d.symbols.length:Int)==0)=true:=by simp[hz]
  clear hz;go_enter Tryz.func146,Tryz.ntmps146;go_wp2;go_ret;exact⟨ar (by rw[HT.out]),H,by rw[HT.out];exact h,ag.refl _ _ _⟩
 ·have HT:Hid (bF d=(0,{ d with inProof:=true })):=by show bF d=_;simp only[bF,hz];simp
  have hz1:((d.symbols.length:Int)==0)=false:=beq_eq_false_iff_ne.2 (by omega);have HK:=h.inProof o ho true;clear hz;go_enter Tryz.func146,Tryz.ntmps146;go_wp2;go_ret;exact⟨ar (by rw[HT.out]),H,by rw[HT.out];exact HK.out.1,HK.out.2⟩
set_option maxRecDepth 100000 in
theorem qP(b t o:Nat)(pre post:List Value)(d:Db)(H:Nat->Hd)(x:ByteArray)(w:World)(h:aE w b t pre post d H)(ho:pre.length=o)(hs:dF d 100000000)(hx:x.size<=1073741824) :
  Calls Tryz.prog 160 #[.pointer (some ⟨b,o,none⟩),.string x] w fun e w'=>e=.returned (.int .i64 (aX d x).1)/\∃H',aE w' b t pre post (aX d x).2 H'/\ag b w H w' H':=by
 obtain⟨q0,q1,q2,q3,q4,q5,q6,q7,q8,q9,q10,q11,q12⟩:=h.cells o ho;have hfr:=h.free
 cases h1:dh x
 ·cases h2:iz x
  ·have HT:Hid (aX d x=(12,d)):=by show aX d x=_;simp[aX,h1,h2]
   go_enter Tryz.func160,Tryz.ntmps160;go_wp2_with (first | (go_at_call 142;refine(cM x _ hx).mono ?_;rintro e w1 ⟨rfl,rfl⟩) | (go_at_call 176;refine(iU x _ hx).mono ?_;rintro e w1 ⟨rfl,rfl⟩) | (go_at_call 164;refine(gY b t o pre post d H x _ (by exact h) ho (hs.mono (by omega))).mono ?_;rintro e w1 ⟨rfl,rfl⟩));go_ret;exact⟨ar (by rw[HT.out]),H,by rw[HT.out];exact h,ag.refl _ _ _⟩
  ·cases h3:df d x
   ·have HT:Hid (aX d x=(0,{ d with labels:=d.labels++[x],label:=x,kind:=6 })):=by show aX d x=_;simp[aX,h1,h2,h3]
    have hll:=hs.labels;go_enter Tryz.func160,Tryz.ntmps160;go_wp2_with (first | (go_at_call 142;refine(cM x _ hx).mono ?_;rintro e w1 ⟨rfl,rfl⟩) | (go_at_call 176;refine(iU x _ hx).mono ?_;rintro e w1 ⟨rfl,rfl⟩) | (go_at_call 164;refine(gY b t o pre post d H x _ (by exact h) ho (hs.mono (by omega))).mono ?_;rintro e w1 ⟨rfl,rfl⟩));refine(rY b t o pre post d H x _ (by exact h) ho (by omega)).mono ?_;rintro e w2 ⟨rfl,H2,D2,T2⟩;have HL:=D2.lab o ho x;have HK:=HL.out.1.kind o ho 6;clear q0 q1 q2 q3 q4 q5 q6 q7 q8 q9 q10 q11 q12 hfr;obtain⟨q0,q1,q2,q3,q4,q5,q6,q7,q8,q9,q10,q11,q12⟩:=D2.cells o ho;have hfr:=D2.free;go_wp2;go_ret;exact⟨ar (by rw[HT.out]),H2,by rw[HT.out];exact HK.out.1,T2.trans (HL.out.2.trans HK.out.2)⟩
   ·have HT:Hid (aX d x=(13,d)):=by show aX d x=_;simp[aX,h1,h2,h3]
    go_enter Tryz.func160,Tryz.ntmps160;go_wp2_with (first | (go_at_call 142;refine(cM x _ hx).mono ?_;rintro e w1 ⟨rfl,rfl⟩) | (go_at_call 176;refine(iU x _ hx).mono ?_;rintro e w1 ⟨rfl,rfl⟩) | (go_at_call 164;refine(gY b t o pre post d H x _ (by exact h) ho (hs.mono (by omega))).mono ?_;rintro e w1 ⟨rfl,rfl⟩));go_ret;exact⟨ar (by rw[HT.out]),H,by rw[HT.out];exact h,ag.refl _ _ _⟩
 ·have HT:Hid (aX d x=(8,d)):=by show aX d x=_;simp[aX,h1]
  go_enter Tryz.func160,Tryz.ntmps160;go_wp2_with (first | (go_at_call 142;refine(cM x _ hx).mono ?_;rintro e w1 ⟨rfl,rfl⟩) | (go_at_call 176;refine(iU x _ hx).mono ?_;rintro e w1 ⟨rfl,rfl⟩) | (go_at_call 164;refine(gY b t o pre post d H x _ (by exact h) ho (hs.mono (by omega))).mono ?_;rintro e w1 ⟨rfl,rfl⟩));go_ret;exact⟨ar (by rw[HT.out]),H,by rw[HT.out];exact h,ag.refl _ _ _⟩
theorem zq(d:Db):1<=dX d:=by unfold dX;split <;> omega
set_option maxRecDepth 100000 in
theorem DO(b t o:Nat)(pre post:List Value)(d:Db)(H:Nat->Hd)(f:ByteArray)(l c:Int)(w:World)(h:aE w b t pre post d H)(ho:pre.length=o)(hs:dF d 10000000) :
  Calls Tryz.prog 145 #[.pointer (some ⟨b,o,none⟩),.agg #[.string f,.int .i64 l,.int .i64 c]] w fun e w'=>e=.returned (.int .i64 (iK d ⟨f,l,c⟩).1)/\∃H',aE w' b t pre post (iK d ⟨f,l,c⟩).2 H'/\ag b w H w' H':=by
 obtain⟨W,hW⟩:∃W,W=w.alloc (.cells #[.string f,.int .i64 l,.int .i64 c] 46):=⟨_,rfl⟩
 have K:aa [] w W:=by rw[hW];exact(aa.refl [] _).alloc _
 have D:=h.still K;have HW:=(show Hid _ from hW.symm);have B:W.heap[w.heap.size]?=some (.cells #[.string f,.int .i64 l,.int .i64 c] 46 (0,0)):=by rw[hW];exact heap_alloc_new _ _
 have p0:W.cell? ⟨w.heap.size,0,none⟩=some (.string f):=by rw[ab B];rfl
 have p1:W.cell? ⟨w.heap.size,1,none⟩=some (.int .i64 l):=by rw[ab B];rfl
 have p2:W.cell? ⟨w.heap.size,2,none⟩=some (.int .i64 c):=by rw[ab B];rfl
 clear hW B h;obtain⟨q0,q1,q2,q3,q4,q5,q6,q7,q8,q9,q10,q11,q12⟩:=D.cells o ho;clear q0 q1 q2 q3 q4 q5 q6 q7 q9 q12;have hfr:=D.free
 by_cases hlt:(d.symbols.length:Int)<dX d
 ·have HT:Hid (iK d ⟨f,l,c⟩=(15,d)):=by show iK d ⟨f,l,c⟩=_;simp only[iK,if_pos hlt]
  go_enter Tryz.func145,Tryz.ntmps145
  go_upto_region 1 with fail
  rw[HW.out]
  go_quiet ((go_at_call 161;exact Calls.quiet_of_same (nh b t o pre post d H _ (D.still ((aa.refl [] W).drewN _)) ho)))
  go_wp2;go_ret;exact⟨ar (by rw[HT.out]),H,by rw[HT.out];exact D.still ((aa.refl [] _).drewN _),(ag.refl _ _ _).still (K.drewN _)⟩
 ·have hsp:Hid (0<d.symbols.length):=by have:=zq d;show 0<_;omega
  by_cases hr:(d.kind==5)=true/\d.inProof=false
  ·have HT:Hid (iK d ⟨f,l,c⟩=(23,d)):=by show iK d ⟨f,l,c⟩=_;simp only[iK,if_neg hlt,if_pos hr]
   obtain⟨k5,hp⟩:=hr;rw[hp]at q11;go_enter Tryz.func145,Tryz.ntmps145
   go_upto_region 1 with fail
   rw[HW.out]
   go_quiet ((go_at_call 161;exact Calls.quiet_of_same (nh b t o pre post d H _ (D.still ((aa.refl [] W).drewN _)) ho)))
   go_wp2;go_ret;exact⟨ar (by rw[HT.out]),H,by rw[HT.out];exact D.still ((aa.refl [] _).drewN _),(ag.refl _ _ _).still (K.drewN _)⟩
  ·have HT:Hid (iK d ⟨f,l,c⟩=(0,{ bX d ⟨f,l,c⟩ with kind:=0,label:=⟨#[]⟩,symbols:=[],inProof:=false,proof:=[] })):=by show iK d ⟨f,l,c⟩=_;simp only[iK,if_neg hlt,if_neg hr]
   have hp5:(d.kind==5)=true->d.inProof=true:=by
    intro k5
    cases hq:d.inProof with
    | true=>rfl
    | false=>exact absurd ⟨k5,hq⟩ hr
   cases k5:(d.kind==5)
   all_goals
    try rw[hp5 k5]at q11
    clear hp5;clear hr;go_enter Tryz.func145,Tryz.ntmps145
    go_upto_region 1 with fail
    rw[HW.out]
    go_quiet ((go_at_call 161;exact Calls.quiet_of_same (nh b t o pre post d H _ (D.still ((aa.refl [] W).drewN _)) ho)))
    go_wp2_with fail;refine(tK b t o pre post d H f l c _ (by exact D.still ((aa.refl [] _).drewN _)) ho hsp.out hs).mono ?_;rintro e w2 ⟨rfl,H2,D2,T2⟩;have K1:=D2.kind o ho 0;have K2:=K1.out.1.lab o ho ⟨#[]⟩;have K3:=(show Hid _ from K2.out.1.forget o ho);have K4:=K3.out.1.inProof o ho false;have K5:=(show Hid _ from K4.out.1.noProof o ho);clear q8 q10 q11 hfr p0 p1 p2;obtain⟨q0,q1,q2,q3,q4,q5,q6,q7,q8,q9,q10,q11,q12⟩:=D2.cells o ho;clear q0 q1 q2 q3 q4 q5 q6 q7;have hfr:=D2.free;go_wp2;go_ret;exact⟨ar (by rw[HT.out]),_,by rw[HT.out];exact K5.out.1,(T2.first (K.drewN _)).trans (K1.out.2.trans (K2.out.2.trans (K3.out.2.trans (K4.out.2.trans K5.out.2))))⟩
theorem lM{α:Type}{l:List α}{p:α}(h:l.getLast?=some p):l=l.dropLast++[p]:=by
 obtain⟨ys,rfl⟩:=List.getLast?_eq_some_iff.1 h;simp
structure tz(d:Db)(N:Nat):Prop where
 names:∀p,p∈d.blocks->p.1<=N/\p.2<=N
 same:d.rbl.length=d.blocks.length
 recs:∀x,x∈d.rbl->x<=d.sts.length
set_option maxRecDepth 100000 in
theorem qO(b t o:Nat)(pre post:List Value)(d:Db)(H:Nat->Hd)(x:ByteArray)(w:World)(h:aE w b t pre post d H)(ho:pre.length=o)(hs1:dF d 10000000)(hx:x.size<=1073741824)(hi:tz d 100000000) :
  Calls Tryz.prog 143 #[.pointer (some ⟨b,o,none⟩),.string x] w fun e w'=>e=.returned (.int .i64 (az d x).1)/\∃H',aE w' b t pre post (az d x).2 H'/\ag b w H w' H':=by
 have hs:=hs1.mono (M:=100000000) (by omega);obtain⟨q0,q1,q2,q3,q4,q5,q6,q7,q8,q9,q10,q11,q12⟩:=h.cells o ho;have hfr:=h.free
 cases e123:(x.toList == [36,123])
 ·cases e125:(x.toList == [36,125])
  ·cases e99:(x.toList == [36,99])
   ·cases e118:(x.toList == [36,118])
    ·cases e100:(x.toList == [36,100])
     ·cases e102:(x.toList == [36,102])
      ·cases e101:(x.toList == [36,101])
       ·cases e97:(x.toList == [36,97])
        ·cases e112:(x.toList == [36,112])
         ·have HT:Hid (az d x=aX d x):=by show az d x=_;simp only[az,e123,e125,e99,e118,e100,e102,e101,e97,e112];simp
          go_enter Tryz.func143,Tryz.ntmps143;go_wp2_with fail;refine(qP b t o pre post d H x _ (by exact h) ho hs hx).mono ?_;rintro e w2 ⟨rfl,H2,D2,T2⟩;go_wp2;go_ret;exact⟨ar (by rw[HT.out]),H2,by rw[HT.out];exact D2,T2⟩
         ·have HT:Hid (az d x=(11,d)):=by show az d x=_;simp only[az,e123,e125,e99,e118,e100,e102,e101,e97,e112];simp
          go_enter Tryz.func143,Tryz.ntmps143;go_wp2;go_ret;exact⟨ar (by rw[HT.out]),H,by rw[HT.out];exact h,ag.refl _ _ _⟩
        ·have HT:Hid (az d x=(11,d)):=by show az d x=_;simp only[az,e123,e125,e99,e118,e100,e102,e101,e97];simp
         go_enter Tryz.func143,Tryz.ntmps143;go_wp2;go_ret;exact⟨ar (by rw[HT.out]),H,by rw[HT.out];exact h,ag.refl _ _ _⟩
       ·have HT:Hid (az d x=(11,d)):=by show az d x=_;simp only[az,e123,e125,e99,e118,e100,e102,e101];simp
        go_enter Tryz.func143,Tryz.ntmps143;go_wp2;go_ret;exact⟨ar (by rw[HT.out]),H,by rw[HT.out];exact h,ag.refl _ _ _⟩
      ·have HT:Hid (az d x=(11,d)):=by show az d x=_;simp only[az,e123,e125,e99,e118,e100,e102];simp
       go_enter Tryz.func143,Tryz.ntmps143;go_wp2;go_ret;exact⟨ar (by rw[HT.out]),H,by rw[HT.out];exact h,ag.refl _ _ _⟩
     ·have HT:Hid (az d x=(0,{ d with kind:=1 })):=by show az d x=_;simp only[az,e123,e125,e99,e118,e100];simp
      have HK:=h.kind o ho 1;go_enter Tryz.func143,Tryz.ntmps143;go_wp2;go_ret;exact⟨ar (by rw[HT.out]),H,by rw[HT.out];exact HK.out.1,HK.out.2⟩
    ·have HT:Hid (az d x=(0,{ d with kind:=8 })):=by show az d x=_;simp only[az,e123,e125,e99,e118];simp
     have HK:=h.kind o ho 8;go_enter Tryz.func143,Tryz.ntmps143;go_wp2;go_ret;exact⟨ar (by rw[HT.out]),H,by rw[HT.out];exact HK.out.1,HK.out.2⟩
   ·by_cases hb0:0<d.blocks.length
    ·have HT:Hid (az d x=(10,d)):=by show az d x=_;simp only[az,e123,e125,e99,hb0];simp
     have hd0:decide (0<d.blocks.length)=true:=by simpa using hb0
     clear hb0;go_enter Tryz.func143,Tryz.ntmps143;go_wp2_with (go_at_call 123;refine(gX b t o pre post d H _ (by exact h) ho).mono ?_;rintro e w1 ⟨rfl,rfl⟩);go_ret;exact⟨ar (by rw[HT.out]),H,by rw[HT.out];exact h,ag.refl _ _ _⟩
    ·have HT:Hid (az d x=(0,{ d with kind:=7 })):=by show az d x=_;simp only[az,e123,e125,e99,hb0];simp
     have hd0:decide (0<d.blocks.length)=false:=by simpa using hb0
     have HK:=h.kind o ho 7;clear hb0;go_enter Tryz.func143,Tryz.ntmps143;go_wp2_with (go_at_call 123;refine(gX b t o pre post d H _ (by exact h) ho).mono ?_;rintro e w1 ⟨rfl,rfl⟩);go_ret;exact⟨ar (by rw[HT.out]),H,by rw[HT.out];exact HK.out.1,HK.out.2⟩
  ·rcases hbb:d.blocks.getLast? with _ | p
   ·have hb0:d.blocks=[]:=by simpa using hbb
    have HT:Hid (az d x=(9,d)):=by show az d x=_;simp only[az,e123,e125,hbb];simp
    have hd0:decide (0<d.blocks.length)=false:=by rw[hb0];rfl
    clear hbb hb0;go_enter Tryz.func143,Tryz.ntmps143;go_wp2_with (go_at_call 123;refine(gX b t o pre post d H _ (by exact h) ho).mono ?_;rintro e w1 ⟨rfl,rfl⟩);go_ret;exact⟨ar (by rw[HT.out]),H,by rw[HT.out];exact h,ag.refl _ _ _⟩
   ·have hb0:d.blocks=d.blocks.dropLast++[p]:=lM hbb
    have HT:Hid (az d x=(0,eV d p)):=by show az d x=_;simp only[az,e123,e125,hbb];simp
    have hd0:decide (0<d.blocks.length)=true:=by rw[hb0];simp
    have HB:Hid (d.blocks=d.blocks.dropLast++[p]):=hb0;have hp:=hi.names p (by rw[hb0];simp);have hne:d.rbl≠[]:=by intro e;have:=hi.same;rw[e,hb0]at this;simp at this
    obtain⟨y,hy⟩:∃y,d.rbl.getLast?=some y:=⟨_,List.getLast?_eq_some_getLast hne⟩
    have HR:Hid (d.rbl=d.rbl.dropLast++[y]):=lM hy;have hyl:=hi.recs y (by rw[HR.out];simp);have HE:Hid (eV d p={ b6 d d.blocks.dropLast p with rbl:=d.rbl.dropLast,sts:=cr d.sts y }):=by show eV d p=_;unfold eV;rw[hy]
    have hs2:Hid (dF (b6 d d.blocks.dropLast p) 100000000):=⟨hs.labels,hs.constants,hs.variables,by have:=hs.active;simp only[b6,List.length_take];omega,by have:=hs.typed;simp only[b6,List.length_take];omega,by have:=hs.blocks;simp only[b6,List.length_dropLast];omega,hs.sts,hs.rbl,hs.symbols,hs.proof⟩;clear hbb hb0 hne hy;go_enter Tryz.func143,Tryz.ntmps143;go_wp2_with (go_at_call 123;refine(gX b t o pre post d H _ (by exact h) ho).mono ?_;rintro e w1 ⟨rfl,rfl⟩);refine(sg b t o pre post d H d.blocks.dropLast p _ (by exact h) ho HB.out (hs.mono (by omega)) ⟨by omega,by omega⟩).mono ?_;rintro e w2 ⟨rfl,D2,T2⟩;go_wp2_with fail;refine(wQ b t o pre post (b6 d d.blocks.dropLast p) H d.rbl.dropLast y _ (by exact D2) ho HR.out hs2.out hyl).mono ?_;rintro e w3 ⟨rfl,D3,T3⟩;go_wp2;go_ret;exact⟨ar (by rw[HT.out]),H,by rw[HT.out,HE.out];exact D3,T2.trans T3⟩
 ·have HT:Hid (az d x=(0,{ d with blocks:=d.blocks++[(d.active.length,d.typed.length)],rbl:=d.rbl++[d.sts.length] })):=by show az d x=_;simp only[az,e123];simp
  have hbl:=hs.blocks;have hs2:Hid (dF { d with blocks:=d.blocks++[(d.active.length,d.typed.length)] } 100000000):=⟨hs.labels,hs.constants,hs.variables,hs.active,hs.typed,by have:=hs1.blocks;simp;omega,hs.sts,hs.rbl,hs.symbols,hs.proof⟩;go_enter Tryz.func143,Tryz.ntmps143;go_wp2_with fail;refine(oF b t o pre post d H _ (by exact h) ho (by omega)).mono ?_;rintro e w2 ⟨rfl,H2,D2,T2⟩;go_wp2_with fail;refine(sX b t o pre post { d with blocks:=d.blocks++[(d.active.length,d.typed.length)] } H2 _ (by exact D2) ho hs2.out).mono ?_;rintro e w3 ⟨rfl,H3,D3,T3⟩;go_wp2;go_ret;exact⟨ar (by rw[HT.out]),H3,by rw[HT.out];exact D3,T2.trans T3⟩
theorem yU(x:ByteArray)(h:(x.toList == [36,61])=true):dh x=true:=by
 have:x=⟨#[36,61]⟩:=bV (by rw[ByteArray.toList_mk [36,61]];simpa using h);rw[this];decide +kernel
theorem z8(l:List (ByteArray×Pl))(p:ByteArray×Pl):(⟨(dZ l).e,(dZ l).size,(dZ l).n+1,(dZ l).xs++lC p⟩:eI)=dZ (l++[p]):=by
 simp[dZ,jc]
def eD(b t o:Nat)(pre post:List Value)(d:Db)(H:Nat->Hd)(x f:ByteArray)(l c:Int)(w:World):Prop :=
 Calls Tryz.prog 122 #[.pointer (some ⟨b,o,none⟩),.string x,.agg #[.string f,.int .i64 l,.int .i64 c]] w fun e w'=>e=.returned (.int .i64 (aS d x ⟨f,l,c⟩).1)/\∃H',aE w' b t pre post (aS d x ⟨f,l,c⟩).2 H'/\ag b w H w' H'
theorem oI{w:World}{b t:Nat}{pre post:List Value}{d:Db}{H:Nat->Hd}(h:aE w b t pre post d H)(f:ByteArray)(l c:Int) :
  ∃W,Hid (w.alloc (.cells #[.string f,.int .i64 l,.int .i64 c] 46)=W)/\aa [] w W/\aE W b t pre post d H/\W.cell? ⟨w.heap.size,0,none⟩=some (.string f)/\W.cell? ⟨w.heap.size,1,none⟩=some (.int .i64 l)/\W.cell? ⟨w.heap.size,2,none⟩=some (.int .i64 c):=by
 have B:(w.alloc (.cells #[.string f,.int .i64 l,.int .i64 c] 46)).heap[w.heap.size]?=some (.cells #[.string f,.int .i64 l,.int .i64 c] 46 (0,0)):=heap_alloc_new _ _;refine⟨_,rfl,(aa.refl [] _).alloc _,h.still ((aa.refl [] _).alloc _),?_,?_,?_⟩ <;> rw[ab B] <;> rfl
set_option maxRecDepth 100000 in
theorem vi(b t o:Nat)(pre post:List Value)(d:Db)(H:Nat->Hd)(x f:ByteArray)(l c:Int)(w:World)(h:aE w b t pre post d H)(ho:pre.length=o)(hs1:dF d 10000000)(hx:x.size<=1073741824)(k0:(d.kind==0)=false)(k1:(d.kind==6)=false)(e46:(x.toList == [36,46])=false)(e61:(x.toList == [36,61])=false)(hd:dh x=false)(hp:d.inProof=false) :
  eD b t o pre post d H x f l c w:=by
 unfold eD;have hs:=hs1.mono (M:=1073741824) (by omega);obtain⟨W,HW,K,D,p0,p1,p2⟩:=oI h f l c;clear h;obtain⟨q0,q1,q2,q3,q4,q5,q6,q7,q8,q9,q10,q11,q12⟩:=D.cells o ho;clear q0 q1 q2 q3 q4 q5 q6 q7 q9 q12;have hfr:=D.free;rw[hp]at q11
 cases hc:(aJ d x==0)
 ·have HT:Hid (aS d x ⟨f,l,c⟩=(aJ d x,d)):=by show aS d x ⟨f,l,c⟩=_;simp[aS,k0,k1,e46,e61,hd,hp,hc]
  go_enter Tryz.func122,Tryz.ntmps122
  go_upto_region 1 with fail
  rw[HW.out];go_wp2_with (first | (go_at_call 142;refine(cM x _ hx).mono ?_;rintro e w1 ⟨rfl,rfl⟩) | (go_at_call 147;refine(jN b t o pre post d H x _ (by exact D) ho hs).mono ?_;rintro e w1 ⟨rfl,rfl⟩));go_ret;exact⟨ar (by rw[HT.out]),H,by rw[HT.out];exact D,(ag.refl _ _ _).still K⟩
 ·have HT:Hid (aS d x ⟨f,l,c⟩=(0,{ d with symbols:=d.symbols++[x] })):=by show aS d x ⟨f,l,c⟩=_;simp[aS,k0,k1,e46,e61,hd,hp,hc]
  have hc0:Hid (aJ d x=0):=(show aJ d x=0 by simpa using hc);have hsl:=hs1.symbols;obtain⟨i0,hi0,hz0,hz1,hz2⟩:=info_parts dp;have hA:=D.still ((aa.refl [] W).alloc (.cells #[.string x] 9));have hownA:=hA.own 8;have hbw:=D.lt;go_enter Tryz.func122,Tryz.ntmps122
  go_upto_region 1 with fail
  rw[HW.out];go_wp2_with (first | (go_at_call 142;refine(cM x _ hx).mono ?_;rintro e w1 ⟨rfl,rfl⟩) | (go_at_call 147;refine(jN b t o pre post d H x _ (by exact D) ho hs).mono ?_;rintro e w1 ⟨rfl,rfl⟩) | (at_builtin;refine ay _ rfl (.tmp 74) (.tmp 76) 22 rfl i0 (.string ⟨#[]⟩) 16 (H 8) (am d.symbols) Tryz.underlying22 hi0 hz0 hz1 hz2 rfl Nat.one_pos rfl (by exact hownA) ⟨_,0,none⟩ 1 1 [.string x] rfl rfl ?c1 ?c2 Nat.one_pos ?c3 ?c4 ?_))
  case c1=>intro j u hj;match j,hj with | 0,hj=>simp at hj;subst hj;simp[Addr.add]
  case c2=>intro u hu;simp at hu;subst hu;rfl
  case c3=>simp only[am];unfold maxLen;omega
  case c4=>simp only[am];omega
  intro g cap' w1 hw1 hgr hfresh;obtain⟨k0,f0,HP⟩:=hA.app (d':={ d with symbols:=d.symbols++[x] }) o 10 ho 8 (by omega) g cap' ((am d.symbols).n+1) _ hw1 (bE d.symbols x) hgr (by simpa using hfresh) (mO d H _) (by omega) _ rfl (by simp[bu,cG,am]);clear hA hownA q8 q10 q11 hw1 hgr hfresh hfr;go_wp2;go_ret;exact⟨ar (by rw[HT.out,hc0.out]),_,by rw[HT.out];exact HP.out.1,HP.out.2.first (K.alloc _)⟩
set_option maxRecDepth 100000 in
theorem qQ(b t o:Nat)(pre post:List Value)(d:Db)(H:Nat->Hd)(x f:ByteArray)(l c:Int)(w:World)(h:aE w b t pre post d H)(ho:pre.length=o)(hs1:dF d 10000000)(hx:x.size<=1073741824)(k0:(d.kind==0)=false)(k1:(d.kind==6)=false)(e46:(x.toList == [36,46])=false)(e61:(x.toList == [36,61])=false)(hd:dh x=false)(hp:d.inProof=true) :
  eD b t o pre post d H x f l c w:=by
 unfold eD;obtain⟨W,HW,K,D,p0,p1,p2⟩:=oI h f l c;clear h;obtain⟨q0,q1,q2,q3,q4,q5,q6,q7,q8,q9,q10,q11,q12⟩:=D.cells o ho;clear q0 q1 q2 q3 q4 q5 q6 q7 q9 q10;have hfr:=D.free;rw[hp]at q11;have HT:Hid (aS d x ⟨f,l,c⟩=(0,{ d with proof:=d.proof++[(x,⟨f,l,c⟩)] })):=by show aS d x ⟨f,l,c⟩=_;simp[aS,k0,k1,e46,e61,hd,hp]
 have hsl:=hs1.proof;obtain⟨i0,hi0,hz0,hz1,hz2⟩:=info_parts E4;have hbw:=D.lt;have hD:Hid (aE (W.alloc (.cells #[.string x,.string f,.int .i64 l,.int .i64 c] 199)).drew b t pre post d H):=D.still ((aa.refl [] W).alloc _).drew
 have s2:Hid (∀j u,(lC (x,⟨f,l,c⟩))[j]?=some u->(W.alloc (.cells #[.string x,.string f,.int .i64 l,.int .i64 c] 199)).drew.cell? ((⟨W.heap.size,0,none⟩:Addr).add j)=some u):=by
  intro j u hj;have hk:(W.alloc (.cells #[.string x,.string f,.int .i64 l,.int .i64 c] 199)).drew.heap[W.heap.size]?=some (.cells #[.string x,.string f,.int .i64 l,.int .i64 c] 199 (0,0)):=heap_alloc_new _ _;rw[aV,ab hk];simpa [lC] using hj
 have s3:Hid (∀u∈lC (x,⟨f,l,c⟩),u.oneCell'=true):=by
  intro u hu;simp only[lC,List.mem_cons,List.not_mem_nil,or_false]at hu
  rcases hu with rfl | rfl | rfl | rfl <;> rfl
 have s4:Hid ((dZ d.proof).n+1<=maxLen):=by show _<=_;simp only[dZ];unfold maxLen;omega
 have s5:Hid (((dZ d.proof).n+1)*48<=140737488355328):=by show _<=_;simp only[dZ];omega
 go_enter Tryz.func122,Tryz.ntmps122
 go_upto_region 1 with fail
 rw[HW.out];go_wp2_with (go_at_call 142;refine(cM x _ hx).mono ?_;rintro e w1 ⟨rfl,rfl⟩)
 go_region_law (refine aC rfl (.tmp 57) (.tmp 61) 142 rfl i0 (.agg #[.string ⟨#[]⟩,.string ⟨#[]⟩,.int .i64 0,.int .i64 0]) 48 (H 9) (dZ d.proof) Tryz.underlying142 hi0 hz0 hz1 hz2 rfl (Nat.succ_pos 3) (by simp[Act.eval] <;> rfl) (hD.out.own 9) ⟨_,0,none⟩ 1 1 (lC (x,⟨f,l,c⟩)) (by simp[Act.eval] <;> rfl) rfl s2.out s3.out Nat.one_pos s4.out s5.out ?_;intro g cap' w1 hw1 hgr hfresh;obtain⟨k5,f5,HP⟩:=hD.out.app (d':={ d with proof:=d.proof++[(x,⟨f,l,c⟩)] }) o 12 ho 9 (by omega) g cap' ((dZ d.proof).n+1) _ hw1 (z8 d.proof (x,⟨f,l,c⟩)) hgr (by simpa using hfresh) (p6 d H _) (by omega) _ rfl (by simp[bu,cG,dZ]);clear hw1 hgr hfresh)
 all_goals go_wp2
 all_goals go_ret
 all_goals exact⟨ar (by rw[HT.out]),_,by rw[HT.out];exact HP.out.1,HP.out.2.first (K.trans ((aa.refl [] _).alloc _).drew)⟩
set_option maxRecDepth 100000 in
theorem xn(b t o:Nat)(pre post:List Value)(d:Db)(H:Nat->Hd)(x f:ByteArray)(l c:Int)(w:World)(h:aE w b t pre post d H)(ho:pre.length=o)(hx:x.size<=1073741824)(k0:(d.kind==0)=false)(k1:(d.kind==6)=false)(e46:(x.toList == [36,46])=false)(e61:(x.toList == [36,61])=true) :
  eD b t o pre post d H x f l c w:=by
 unfold eD;obtain⟨W,HW,K,D,p0,p1,p2⟩:=oI h f l c;clear h;obtain⟨q0,q1,q2,q3,q4,q5,q6,q7,q8,q9,q10,q11,q12⟩:=D.cells o ho;clear q0 q1 q2 q3 q4 q5 q6 q7 q9 q10 q12;have hfr:=D.free;have hd:=yU x e61
 cases k5:(d.kind==5)
 ·have HT:Hid (aS d x ⟨f,l,c⟩=(8,d)):=by show aS d x ⟨f,l,c⟩=_;simp[aS,k0,k1,e46,k5,hd]
  go_enter Tryz.func122,Tryz.ntmps122
  go_upto_region 1 with fail
  rw[HW.out];go_wp2_with (go_at_call 142;refine(cM x _ hx).mono ?_;rintro e w1 ⟨rfl,rfl⟩);go_ret;exact⟨ar (by rw[HT.out]),H,by rw[HT.out];exact D,(ag.refl _ _ _).still K⟩
 ·cases hp:d.inProof
  ·have HT:Hid (aS d x ⟨f,l,c⟩=bF d):=by show aS d x ⟨f,l,c⟩=_;simp only[aS,k0,k1,e46,e61,k5,hp];simp
   rw[hp]at q11;go_enter Tryz.func122,Tryz.ntmps122
   go_upto_region 1 with fail
   rw[HW.out];go_wp2_with fail;refine(oG b t o pre post d H _ (by exact D) ho).mono ?_;rintro e w2 ⟨rfl,H2,D2,T2⟩;go_wp2;go_ret;exact⟨ar (by rw[HT.out]),H2,by rw[HT.out];exact D2,T2.first K⟩
  ·have HT:Hid (aS d x ⟨f,l,c⟩=(8,d)):=by show aS d x ⟨f,l,c⟩=_;simp[aS,k0,k1,e46,hp,hd]
   rw[hp]at q11;go_enter Tryz.func122,Tryz.ntmps122
   go_upto_region 1 with fail
   rw[HW.out];go_wp2_with (go_at_call 142;refine(cM x _ hx).mono ?_;rintro e w1 ⟨rfl,rfl⟩);go_ret;exact⟨ar (by rw[HT.out]),H,by rw[HT.out];exact D,(ag.refl _ _ _).still K⟩
set_option maxRecDepth 100000 in
theorem De(b t o:Nat)(pre post:List Value)(d:Db)(H:Nat->Hd)(x f:ByteArray)(l c:Int)(w:World)(h:aE w b t pre post d H)(ho:pre.length=o)(hs:dF d 10000000)(hx:x.size<=1073741824)(hi:tz d 100000000) :
  eD b t o pre post d H x f l c w:=by
 cases k0:(d.kind==0)
 ·cases k1:(d.kind==6)
  ·cases e46:(x.toList == [36,46])
   ·cases e61:(x.toList == [36,61])
    ·cases hd:dh x
     ·cases hp:d.inProof
      ·exact vi b t o pre post d H x f l c w h ho hs hx k0 k1 e46 e61 hd hp
      ·exact qQ b t o pre post d H x f l c w h ho hs hx k0 k1 e46 e61 hd hp
     ·unfold eD
      obtain⟨W,HW,K,D,p0,p1,p2⟩:=oI h f l c;clear h hi;obtain⟨q0,q1,q2,q3,q4,q5,q6,q7,q8,q9,q10,q11,q12⟩:=D.cells o ho;clear q0 q1 q2 q3 q4 q5 q6 q7 q9 q10 q12;have HT:Hid (aS d x ⟨f,l,c⟩=(8,d)):=by show aS d x ⟨f,l,c⟩=_;simp[aS,k0,k1,e46,e61,hd]
      go_enter Tryz.func122,Tryz.ntmps122
      go_upto_region 1 with fail
      rw[HW.out];go_wp2_with (go_at_call 142;refine(cM x _ hx).mono ?_;rintro e w1 ⟨rfl,rfl⟩);go_ret;exact⟨ar (by rw[HT.out]),H,by rw[HT.out];exact D,(ag.refl _ _ _).still K⟩
    ·exact xn b t o pre post d H x f l c w h ho hx k0 k1 e46 e61
   ·unfold eD
    obtain⟨W,HW,K,D,p0,p1,p2⟩:=oI h f l c;clear h hi;obtain⟨q0,q1,q2,q3,q4,q5,q6,q7,q8,q9,q10,q11,q12⟩:=D.cells o ho;clear q0 q1 q2 q3 q4 q5 q6 q7 q9 q10 q11 q12;have HT:Hid (aS d x ⟨f,l,c⟩=iK d ⟨f,l,c⟩):=by show aS d x ⟨f,l,c⟩=_;simp only[aS,k0,k1,e46];simp
    go_enter Tryz.func122,Tryz.ntmps122
    go_upto_region 1 with fail
    rw[HW.out];go_wp2_with fail;refine(DO b t o pre post d H f l c _ (by exact D) ho hs).mono ?_;rintro e w2 ⟨rfl,H2,D2,T2⟩;go_wp2;go_ret;exact⟨ar (by rw[HT.out]),H2,by rw[HT.out];exact D2,T2.first K⟩
  ·unfold eD
   obtain⟨W,HW,K,D,p0,p1,p2⟩:=oI h f l c;clear h hi;obtain⟨q0,q1,q2,q3,q4,q5,q6,q7,q8,q9,q10,q11,q12⟩:=D.cells o ho;clear q0 q1 q2 q3 q4 q5 q6 q7 q9 q10 q11 q12;have HT:Hid (aS d x ⟨f,l,c⟩=aG d x):=by show aS d x ⟨f,l,c⟩=_;simp only[aS,k0,k1];simp
   go_enter Tryz.func122,Tryz.ntmps122
   go_upto_region 1 with fail
   rw[HW.out];go_wp2_with fail;refine(oi b t o pre post d H x _ (by exact D) ho).mono ?_;rintro e w2 ⟨rfl,H2,D2,T2⟩;go_wp2;go_ret;exact⟨ar (by rw[HT.out]),H2,by rw[HT.out];exact D2,T2.first K⟩
 ·unfold eD
  obtain⟨W,HW,K,D,p0,p1,p2⟩:=oI h f l c;clear h;obtain⟨q0,q1,q2,q3,q4,q5,q6,q7,q8,q9,q10,q11,q12⟩:=D.cells o ho;clear q0 q1 q2 q3 q4 q5 q6 q7 q9 q10 q11 q12;have HT:Hid (aS d x ⟨f,l,c⟩=az d x):=by show aS d x ⟨f,l,c⟩=_;simp only[aS,k0];simp
  go_enter Tryz.func122,Tryz.ntmps122
  go_upto_region 1 with fail
  rw[HW.out];go_wp2_with fail;refine(qO b t o pre post d H x _ (by exact D) ho hs hx hi).mono ?_;rintro e w2 ⟨rfl,H2,D2,T2⟩;go_wp2;go_ret;exact⟨ar (by rw[HT.out]),H2,by rw[HT.out];exact D2,T2.first K⟩
def bh:Db:=⟨[],[],[],[],[],[],[],[],0,⟨#[]⟩,[],false,[]⟩
abbrev lW:=Int×Pl
def bT:lW:=(0,⟨⟨#[]⟩,0,0⟩)
def eM(f:lW):Value:=.agg #[.int .i64 f.1,.string f.2.file,.int .i64 f.2.line,.int .i64 f.2.col]
def eT(n s:ByteArray)(p:Nat):Pl:=⟨n,aD s p,bb s p⟩
def fg(n s:ByteArray)(i:lY):lW:=(if i.fin=true then 7 else i.rule,eT n s i.pos)
abbrev Du:=lW×List Bool×Db
def wf(fs:Fs)(x z:Nat)(p:Pl)(d:Db):lW ⊕ (Nat×Nat) :=
  if eF d=true then .inl (4,p)
  else if aA (ak (aj fs x) z).1=false then .inl (fg (bn fs x) (aj fs x) (ak (aj fs x) z).1)
  else if dh (ak (aj fs x) z).1.text=true then .inl (5,eT (bn fs x) (aj fs x) (ak (aj fs x) z).1.pos)
  else if de fs (ak (aj fs x) z).1.text<0 then .inl (6,eT (bn fs x) (aj fs x) (ak (aj fs x) z).1.pos)
  else if aA (ak (aj fs x) (ak (aj fs x) z).2).1=false then .inl (fg (bn fs x) (aj fs x) (ak (aj fs x) (ak (aj fs x) z).2).1)
  else if((ak (aj fs x) (ak (aj fs x) z).2).1.text.toList == [36,93])=false then .inl (5,eT (bn fs x) (aj fs x) (ak (aj fs x) (ak (aj fs x) z).2).1.pos)
  else .inr ((de fs (ak (aj fs x) z).1.text).toNat,(ak (aj fs x) (ak (aj fs x) z).2).2)
def jV(rf:Nat->List Bool->Db->Du)(fs:Fs)(x z:Nat)(p:Pl)(bg:List Bool)(d:Db):Du×Nat :=
  match wf fs x z p d with
  | .inl f=>((f,bg,d),z)
  | .inr (j,z')=>(rf j bg d,z')
def fY(rf:Nat->List Bool->Db->Du)(fs:Fs)(x z:Nat)(t:ByteArray)(p:Pl)(bg:List Bool)(d:Db):Du×Nat :=
  if(t.toList == [36,91])=true then jV rf fs x z p bg d
  else((if((aS d t p).1==0)=true then bT else((aS d t p).1,p),bg,(aS d t p).2),z)
def aQ(fs:Fs):Nat->Nat->Nat->List Bool->Db->Du
  | 0,_,_,bg,d=>(bT,bg,d)
  | f+1,x,k,bg,d =>
    if aA (ak (aj fs x) k).1=true then
      (if((fY (fun j bg d=>if bg.getD j true=true then(bT,bg,d) else aQ fs f j 0 (bg.set j true) d) fs x (ak (aj fs x) k).2 (ak (aj fs x) k).1.text (eT (bn fs x) (aj fs x) (ak (aj fs x) k).1.pos) bg d).1.1.1==0)=true
       then aQ fs f x (fY (fun j bg d=>if bg.getD j true=true then(bT,bg,d) else aQ fs f j 0 (bg.set j true) d) fs x (ak (aj fs x) k).2 (ak (aj fs x) k).1.text (eT (bn fs x) (aj fs x) (ak (aj fs x) k).1.pos) bg d).2
          (fY (fun j bg d=>if bg.getD j true=true then(bT,bg,d) else aQ fs f j 0 (bg.set j true) d) fs x (ak (aj fs x) k).2 (ak (aj fs x) k).1.text (eT (bn fs x) (aj fs x) (ak (aj fs x) k).1.pos) bg d).1.2.1
          (fY (fun j bg d=>if bg.getD j true=true then(bT,bg,d) else aQ fs f j 0 (bg.set j true) d) fs x (ak (aj fs x) k).2 (ak (aj fs x) k).1.text (eT (bn fs x) (aj fs x) (ak (aj fs x) k).1.pos) bg d).1.2.2
       else(fY (fun j bg d=>if bg.getD j true=true then(bT,bg,d) else aQ fs f j 0 (bg.set j true) d) fs x (ak (aj fs x) k).2 (ak (aj fs x) k).1.text (eT (bn fs x) (aj fs x) (ak (aj fs x) k).1.pos) bg d).1)
    else if(ak (aj fs x) k).1.fin=true/\eF d=false then(bT,bg,d) else(fg (bn fs x) (aj fs x) (ak (aj fs x) k).1,bg,d)
def bJ(fs:Fs)(f:Nat)(j:Nat)(bg:List Bool)(d:Db):Du :=
  if bg.getD j true=true then(bT,bg,d) else aQ fs f j 0 (bg.set j true) d
def eo(fs:Fs)(f x k:Nat)(bg:List Bool)(d:Db):Du×Nat :=
  fY (bJ fs f) fs x (ak (aj fs x) k).2 (ak (aj fs x) k).1.text (eT (bn fs x) (aj fs x) (ak (aj fs x) k).1.pos) bg d
theorem xZ(fs:Fs)(f x k:Nat)(bg:List Bool)(d:Db)(h1:aA (ak (aj fs x) k).1=true)(h2:((eo fs f x k bg d).1.1.1==0)=true) :
    aQ fs (f+1) x k bg d=aQ fs f x (eo fs f x k bg d).2 (eo fs f x k bg d).1.2.1 (eo fs f x k bg d).1.2.2:=by
  rw[aQ,if_pos h1];exact if_pos h2
theorem oo(fs:Fs)(f x k:Nat)(bg:List Bool)(d:Db)(h1:aA (ak (aj fs x) k).1=true)(h2:((eo fs f x k bg d).1.1.1==0)=false) :
    aQ fs (f+1) x k bg d=(eo fs f x k bg d).1:=by
  rw[aQ,if_pos h1];exact if_neg (fun hh=>Bool.noConfusion (h2.symm.trans hh))
theorem su(fs:Fs)(f x k:Nat)(bg:List Bool)(d:Db)(h1:aA (ak (aj fs x) k).1=false)(h2:(ak (aj fs x) k).1.fin=true)(h3:eF d=false) :
    aQ fs (f+1) x k bg d=(bT,bg,d):=by
  rw[aQ,if_neg (by simp[h1]),if_pos ⟨h2,h3⟩]
theorem oX(fs:Fs)(f x k:Nat)(bg:List Bool)(d:Db)(h1:aA (ak (aj fs x) k).1=false)(h2:¬((ak (aj fs x) k).1.fin=true/\eF d=false)) :
    aQ fs (f+1) x k bg d=(fg (bn fs x) (aj fs x) (ak (aj fs x) k).1,bg,d):=by
  rw[aQ,if_neg (by simp[h1]),if_neg h2]
def dl(n s:ByteArray):Nat->Nat->Db->(Int×Nat)×Db
  | 0,_,d=>((0,0),d)
  | f+1,k,d =>
    if aA (ak s k).1=true then
      (if((aS d (ak s k).1.text (eT n s (ak s k).1.pos)).1==0)=true then dl n s f (ak s k).2 (aS d (ak s k).1.text (eT n s (ak s k).1.pos)).2
       else(((aS d (ak s k).1.text (eT n s (ak s k).1.pos)).1,(ak s k).1.pos),(aS d (ak s k).1.text (eT n s (ak s k).1.pos)).2))
    else if(ak s k).1.fin=true then(if eF d=false then((0,0),d) else((7,(ak s k).1.pos),d)) else(((ak s k).1.rule,(ak s k).1.pos),d)
def bU(n s:ByteArray)(k:Nat)(d:Db):(Int×Nat)×Db:=dl n s (s.size-k+1) k d
def oV(n s:ByteArray)(q:Int×Nat):lW:=if(q.1==0)=true then bT else(q.1,eT n s q.2)
def Bd(s:ByteArray):Prop:=∀k,k<=s.size->aA (ak s k).1=true->((ak s k).1.text.toList == [36,91])=false
theorem lK{i:lY}(h:aA i=true):i=⟨i.text,0,false,i.pos⟩:=by
  obtain⟨t,u,f,p⟩:=i;simp[aA]at h;rw[h.1,h.2]
theorem kh{i:lY}(h:aA i=false)(hf:i.fin=false):(i.rule==0)=false:=by
  simp[aA,hf]at h;simpa using h
theorem ky(n s:ByteArray)(f k:Nat)(d:Db)(hk:k<=s.size)(hf:s.size-k+1<=f):dl n s f k d=bU n s k d:=by
  unfold bU
  suffices h:∀f g k d,k<=s.size->s.size-k+1<=f->s.size-k+1<=g->dl n s f k d=dl n s g k d from h _ _ _ _ hk hf (Nat.le_refl _)
  clear hf hk f k d;intro f
  induction f with
  | zero=>intro g k d _ h;omega
  | succ f ih =>
    intro g k d hk hf hg
    cases g with
    | zero=>omega
    | succ g =>
      rw[dl,dl]
      split
      · next h =>
        have hl:=cT s k hk;have hl2:=hl.2.2 h
        split
        · exact ih g _ _ hl.2.1 (by omega) (by omega)
        · rfl
      · rfl
theorem sW(n s:ByteArray)(k:Nat)(d:Db)(hk:k<=s.size)(h1:aA (ak s k).1=true)(h2:((aS d (ak s k).1.text (eT n s (ak s k).1.pos)).1==0)=true) :
    bU n s k d=bU n s (ak s k).2 (aS d (ak s k).1.text (eT n s (ak s k).1.pos)).2:=by
  have hl:=cT s k hk;have hl2:=hl.2.2 h1
  conv=>lhs;unfold bU
  rw[dl,if_pos h1,if_pos h2,ky n s _ _ _ hl.2.1 (by omega)]
theorem rK(n s:ByteArray)(k:Nat)(d:Db)(h1:aA (ak s k).1=true)(h2:((aS d (ak s k).1.text (eT n s (ak s k).1.pos)).1==0)=false) :
    bU n s k d=(((aS d (ak s k).1.text (eT n s (ak s k).1.pos)).1,(ak s k).1.pos),(aS d (ak s k).1.text (eT n s (ak s k).1.pos)).2):=by
  unfold bU;rw[dl,if_pos h1,if_neg (by simp[h2])]
theorem pV(n s:ByteArray)(k:Nat)(d:Db)(h1:aA (ak s k).1=false)(h2:(ak s k).1.fin=true)(h3:eF d=false):bU n s k d=((0,0),d):=by
  unfold bU;rw[dl,if_neg (by simp[h1]),if_pos h2,if_pos h3]
theorem ny(n s:ByteArray)(k:Nat)(d:Db)(h1:aA (ak s k).1=false)(h2:(ak s k).1.fin=true)(h3:eF d=true):bU n s k d=((7,(ak s k).1.pos),d):=by
  unfold bU;rw[dl,if_neg (by simp[h1]),if_pos h2,if_neg (by simp[h3])]
theorem uM(n s:ByteArray)(k:Nat)(d:Db)(h1:aA (ak s k).1=false)(h2:(ak s k).1.fin=false):bU n s k d=(((ak s k).1.rule,(ak s k).1.pos),d):=by
  unfold bU;rw[dl,if_neg (by simp[h1]),if_neg (by simp[h2])]
theorem BQ(fs:Fs)(x:Nat)(hni:Bd (aj fs x))(f:Nat):∀k bg d,k<=(aj fs x).size->(aj fs x).size-k+1<=f ->
    aQ fs f x k bg d=(oV (bn fs x) (aj fs x) (bU (bn fs x) (aj fs x) k d).1,bg,(bU (bn fs x) (aj fs x) k d).2):=by
  induction f with
  | zero=>intro k bg d hk hf;omega
  | succ f ih =>
    intro k bg d hk hf;have hl:=cT (aj fs x) k hk
    cases h1:aA (ak (aj fs x) k).1 with
    | true =>
      have hl2:=hl.2.2 h1;have hn:=hni k hk h1
      have es:eo fs f x k bg d=((if((aS d (ak (aj fs x) k).1.text (eT (bn fs x) (aj fs x) (ak (aj fs x) k).1.pos)).1==0)=true then bT else((aS d (ak (aj fs x) k).1.text (eT (bn fs x) (aj fs x) (ak (aj fs x) k).1.pos)).1,eT (bn fs x) (aj fs x) (ak (aj fs x) k).1.pos),bg,(aS d (ak (aj fs x) k).1.text (eT (bn fs x) (aj fs x) (ak (aj fs x) k).1.pos)).2),(ak (aj fs x) k).2):=by
        unfold eo fY;rw[hn];simp
      cases h2:((aS d (ak (aj fs x) k).1.text (eT (bn fs x) (aj fs x) (ak (aj fs x) k).1.pos)).1==0) with
      | true =>
        rw[xZ fs f x k bg d h1 (by rw[es,h2];rfl),es,ih _ _ _ hl.2.1 (by omega),<-sW _ _ k d hk h1 h2]
      | false =>
        rw[oo fs f x k bg d h1 (by rw[es,h2];simpa using h2),es,rK _ _ k d h1 h2];simp only[oV,h2]
    | false =>
      cases h2:(ak (aj fs x) k).1.fin with
      | true =>
        cases h3:eF d with
        | false=>rw[su fs f x k bg d h1 h2 h3,pV _ _ k d h1 h2 h3];rfl
        | true=>rw[oX fs f x k bg d h1 (by simp[h3]),ny _ _ k d h1 h2 h3];simp[oV,fg,h2]
      | false =>
        have h4:=kh h1 h2;rw[oX fs f x k bg d h1 (by simp[h2]),uM _ _ k d h1 h2];simp[oV,fg,h2,h4]
structure iI(d:Db)(m:Nat):Prop where
  labels:d.labels.length<=m
  constants:d.constants.length+d.symbols.length<=m
  variables:d.variables.length+d.symbols.length<=m
  active:d.active.length+d.symbols.length<=m
  typed:d.typed.length+d.symbols.length<=m
  blocks:d.blocks.length<=m
  sts:d.sts.length<=m
  proof:d.proof.length<=m
  inner:∀p,p∈d.blocks->p.1<=m/\p.2<=m
  same:d.rbl.length=d.blocks.length
  recs:∀x,x∈d.rbl->x<=d.sts.length
theorem iI.small{d:Db}{m N:Nat}(h:iI d m)(hN:m<=N):dF d N/\tz d N :=
  ⟨⟨by have:=h.labels;omega,by have:=h.constants;omega,by have:=h.variables;omega,by have:=h.active;omega,by have:=h.typed;omega,by have:=h.blocks;omega,by have:=h.sts;omega,by have:=h.blocks;have:=h.same;omega,by have:=h.constants;omega,by have:=h.proof;omega⟩,
   ⟨fun p hp=>by have:=h.inner p hp;omega,h.same,h.recs⟩⟩
theorem iI.mono{d:Db}{m m':Nat}(h:iI d m)(hm:m<=m'):iI d m' :=
  ⟨by have:=h.labels;omega,by have:=h.constants;omega,by have:=h.variables;omega,by have:=h.active;omega,by have:=h.typed;omega,by have:=h.blocks;omega,by have:=h.sts;omega,by have:=h.proof;omega,fun p hp=>by have:=h.inner p hp;omega,h.same,h.recs⟩
theorem iI.empty:iI bh 0:=by
  refine⟨?_,?_,?_,?_,?_,?_,?_,?_,?_,?_,?_⟩ <;> simp[bh]
theorem iI.plain{d:Db}{m:Nat}(h:iI d m)(k:Int)(l:ByteArray)(b:Bool):iI { d with kind:=k,label:=l,inProof:=b } m:=⟨h.labels,h.constants,h.variables,h.active,h.typed,h.blocks,h.sts,h.proof,h.inner,h.same,h.recs⟩
theorem oM(l:List St)(b:Nat):(cr l b).length=l.length:=fS l b l.length
theorem iI.declare{d:Db}{m:Nat}(h:iI d m)(p:Pl):iI { bX d p with kind:=0,label:=⟨#[]⟩,symbols:=[],inProof:=false,proof:=[] } (m+1):=by
  have e2:=h.constants;have e3:=h.variables;have e4:=h.active;have e5:=h.typed;have h':=h.mono (Nat.le_succ m);unfold bX
  split
  · exact⟨h'.labels,by simp;omega,by simp;omega,by simp;omega,by simp;omega,h'.blocks,h'.sts,by simp,h'.inner,h'.same,h'.recs⟩
  · split
    · have:=vn d.variables (d.symbols.take d.symbols.length)
      simp only[List.take_length]at this;exact⟨h'.labels,by simp[da];omega,by simp[da];omega,by simp[da];omega,by simp[da];omega,h'.blocks,h'.sts,by simp,h'.inner,h'.same,h'.recs⟩
    · unfold cZ tD
      have:=h.sts
      split
      · next hc=>exact⟨h'.labels,by simp;omega,by simp;omega,by simp;omega,by simp;omega,h'.blocks,by simp;omega,by simp,h'.inner,h'.same,fun x hx=>by have:=h.recs x hx;simp;omega⟩
      · exact⟨h'.labels,by simp;omega,by simp;omega,by simp;omega,by simp;omega,h'.blocks,by simp;omega,by simp,h'.inner,h'.same,fun x hx=>by have:=h.recs x hx;simp;omega⟩
theorem iI.take{d:Db}{m:Nat}(h:iI d m)(x:ByteArray)(pl:Pl):iI (aS d x pl).2 (m+1):=by
  have h':=h.mono (Nat.le_succ m);have hk:=fun k=>h'.plain k d.label d.inProof
  have e1:=h.labels;have e2:=h.constants;have e3:=h.variables;have e4:=h.active;have e5:=h.typed;have e6:=h.blocks
  have hlab:iI (aX d x).2 (m+1):=by
    unfold aX
    split
    · exact h'
    · split
      · exact h'
      · split
        · exact h'
        · exact⟨by simp;omega,h'.constants,h'.variables,h'.active,h'.typed,h'.blocks,h'.sts,h'.proof,h'.inner,h'.same,h'.recs⟩
  have hkey:iI (aG d x).2 (m+1):=by
    unfold aG
    split
    · exact hk 2
    · split
      · exact hk 3
      · split
        · exact hk 4
        · split
          · exact hk 5
          · exact h'
  have hfst:iI (az d x).2 (m+1):=by
    unfold az
    split
    · refine⟨h'.labels,h'.constants,h'.variables,h'.active,h'.typed,by simp;omega,h'.sts,h'.proof,?_,by simp[h.same],?_⟩
      · intro p hp
        simp only[List.mem_append,List.mem_singleton]at hp
        rcases hp with hp | rfl
        · exact h'.inner p hp
        · simp only;omega
      · intro y hy
        simp only[List.mem_append,List.mem_singleton]at hy
        rcases hy with hy | rfl
        · exact h.recs y hy
        · exact Nat.le_refl _
    · split
      · split
        · exact h'
        · next p hp =>
          unfold eV
          have hne:d.rbl≠[]:=by
            intro e;have:=h.same;rw[e,lM hp]at this;simp at this
          obtain⟨y,hy⟩:∃y,d.rbl.getLast?=some y:=⟨_,List.getLast?_eq_some_getLast hne⟩
          rw[hy];refine⟨h'.labels,h'.constants,h'.variables,?_,?_,?_,?_,h'.proof,?_,?_,?_⟩
          · simp only[b6,List.length_take];omega
          · simp only[b6,List.length_take];omega
          · simp only[b6,List.length_dropLast];omega
          · show(cr d.sts y).length<=_;rw[oM];exact h'.sts
          · intro q hq
            simp only[b6]at hq;exact h'.inner q (List.dropLast_subset _ hq)
          · simp only[b6,List.length_dropLast,h.same]
          · intro q hq
            show q<=(cr d.sts y).length
            rw[oM];exact h.recs q (List.dropLast_subset _ hq)
      · split
        · split
          · exact h'
          · exact hk 7
        · split
          · exact hk 8
          · split
            · exact hk 1
            · split
              · exact h'
              · exact hlab
  have hend:iI (iK d pl).2 (m+1):=by
    unfold iK
    split
    · exact h'
    · split
      · exact h'
      · exact h.declare pl
  unfold aS
  split
  · exact hfst
  · split
    · exact hkey
    · split
      · exact hend
      · split
        · unfold bF
          split
          · exact h'
          · exact h'.plain d.kind d.label true
        · split
          · exact h'
          · split
            · exact⟨h'.labels,h'.constants,h'.variables,h'.active,h'.typed,h'.blocks,h'.sts,by have:=h.proof;simp;omega,h'.inner,h'.same,h'.recs⟩
            · split
              · exact⟨h'.labels,by simp;omega,by simp;omega,by simp;omega,by simp;omega,h'.blocks,h'.sts,h'.proof,h'.inner,h'.same,h'.recs⟩
              · exact h'
def Dw(fs:Fs)(bg:List Bool)(j:Nat):Nat:=if bg.getD j true=true then 0 else(aj fs j).size+2
def cI(fs:Fs)(bg:List Bool):Nat:=Dw fs bg 0+Dw fs bg 1+Dw fs bg 2+Dw fs bg 3
theorem pB(fs:Fs)(bg:List Bool)(j:Nat)(hl:bg.length=4)(hb:bg.getD j true=false):cI fs (bg.set j true)+(aj fs j).size+2=cI fs bg:=by
  match bg,hl with
  | [a,b,c,d],_ =>
    match j with
    | 0=>simp at hb;subst hb;simp[cI,Dw];omega
    | 1=>simp at hb;subst hb;simp[cI,Dw];omega
    | 2=>simp at hb;subst hb;simp[cI,Dw];omega
    | 3=>simp at hb;subst hb;simp[cI,Dw];omega
    | j+4=>simp at hb
def Gx(fs:Fs)(bg:List Bool)(m:Nat)(r:Du):Prop :=
  r.2.1.length=4/\cI fs r.2.1<=cI fs bg/\∃m',iI r.2.2 m'/\m'+cI fs r.2.1<=m+cI fs bg
theorem vf(fs:Fs)(f:Nat)(IH:∀j bg d m,bg.length=4->iI d m->Gx fs bg m (bJ fs f j bg d))(x k:Nat)(bg:List Bool)(d:Db)(m:Nat)(hk:k<=(aj fs x).size)(hl:bg.length=4)(hB:iI d m)(hw:aA (ak (aj fs x) k).1=true) :
    Gx fs bg (m+1) (eo fs f x k bg d).1/\k<(eo fs f x k bg d).2/\(eo fs f x k bg d).2<=(aj fs x).size:=by
  have nl:=cT (aj fs x) k hk;have nl2:=nl.2.2 hw;unfold eo fY
  split
  · unfold jV
    split
    · exact⟨⟨hl,Nat.le_refl _,m,hB,by simp only;omega⟩,nl2,nl.2.1⟩
    · next j z' he =>
      have h2:=IH j bg d m hl hB;refine⟨⟨h2.1,h2.2.1,?_⟩,?_⟩
      · obtain⟨m',q1,q2⟩:=h2.2.2;exact⟨m',q1,by simp only;omega⟩
      · unfold wf at he
        have l1:=cT (aj fs x) (ak (aj fs x) k).2 nl.2.1;have l2:=cT (aj fs x) (ak (aj fs x) (ak (aj fs x) k).2).2 l1.2.1
        repeat' split at he
        all_goals first | (cases he;done) | skip
        injection he with he
        injection he with he1 he2
        subst he2;omega
  · exact⟨⟨hl,Nat.le_refl _,m+1,hB.take _ _,by simp only;omega⟩,nl2,nl.2.1⟩
theorem BP(fs:Fs)(f:Nat):(∀x k bg d m,k<=(aj fs x).size->bg.length=4->iI d m->(aQ fs f x k bg d).2.1.length=4/\cI fs (aQ fs f x k bg d).2.1<=cI fs bg/\∃m',iI (aQ fs f x k bg d).2.2 m'/\m'+cI fs (aQ fs f x k bg d).2.1<=m+((aj fs x).size-k)+cI fs bg) /\
    (∀j bg d m,bg.length=4->iI d m->Gx fs bg m (bJ fs f j bg d)):=by
  have second:∀f,(∀x k bg d m,k<=(aj fs x).size->bg.length=4->iI d m->(aQ fs f x k bg d).2.1.length=4/\cI fs (aQ fs f x k bg d).2.1<=cI fs bg/\∃m',iI (aQ fs f x k bg d).2.2 m'/\m'+cI fs (aQ fs f x k bg d).2.1<=m+((aj fs x).size-k)+cI fs bg) ->
      (∀j bg d m,bg.length=4->iI d m->Gx fs bg m (bJ fs f j bg d)):=by
    intro f h j bg d m hl hB;unfold bJ
    split
    · exact⟨hl,Nat.le_refl _,m,hB,Nat.le_refl _⟩
    · next hb =>
      have hb':bg.getD j true=false:=by simpa using hb
      have hm:=pB fs bg j hl hb';have:=h j 0 (bg.set j true) d m (Nat.zero_le _) (by simpa using hl) hB;refine⟨this.1,by omega,?_⟩;obtain⟨m',q1,q2⟩:=this.2.2;exact⟨m',q1,by omega⟩
  induction f with
  | zero =>
    have h0:∀x k bg d m,k<=(aj fs x).size->bg.length=4->iI d m->(aQ fs 0 x k bg d).2.1.length=4/\cI fs (aQ fs 0 x k bg d).2.1<=cI fs bg/\∃m',iI (aQ fs 0 x k bg d).2.2 m'/\m'+cI fs (aQ fs 0 x k bg d).2.1<=m+((aj fs x).size-k)+cI fs bg:=by
      intro x k bg d m hk hl hB;exact⟨hl,Nat.le_refl _,m,hB,by simp only[aQ];omega⟩
    exact⟨h0,second 0 h0⟩
  | succ f ih =>
    have h1:∀x k bg d m,k<=(aj fs x).size->bg.length=4->iI d m->(aQ fs (f+1) x k bg d).2.1.length=4/\cI fs (aQ fs (f+1) x k bg d).2.1<=cI fs bg/\∃m',iI (aQ fs (f+1) x k bg d).2.2 m'/\m'+cI fs (aQ fs (f+1) x k bg d).2.1<=m+((aj fs x).size-k)+cI fs bg:=by
      intro x k bg d m hk hl hB
      cases hw:aA (ak (aj fs x) k).1 with
      | true =>
        have st:=vf fs f ih.2 x k bg d m hk hl hB hw;obtain⟨⟨s1,s2,m1,s3,s4⟩,s5,s6⟩:=st
        cases h2:((eo fs f x k bg d).1.1.1==0) with
        | true =>
          rw[xZ fs f x k bg d hw h2];obtain⟨r1,r2,m2,r3,r4⟩:=ih.1 x (eo fs f x k bg d).2 (eo fs f x k bg d).1.2.1 (eo fs f x k bg d).1.2.2 m1 s6 s1 s3;exact⟨r1,by omega,m2,r3,by omega⟩
        | false =>
          rw[oo fs f x k bg d hw h2];exact⟨s1,s2,m1,s3,by omega⟩
      | false =>
        by_cases h2:(ak (aj fs x) k).1.fin=true/\eF d=false
        · rw[su fs f x k bg d hw h2.1 h2.2];exact⟨hl,Nat.le_refl _,m,hB,by simp only;omega⟩
        · rw[oX fs f x k bg d hw h2];exact⟨hl,Nat.le_refl _,m,hB,by simp only;omega⟩
    exact⟨h1,second (f+1) h1⟩
theorem qD(d:ByteArray)(k:Nat)(hd:d.size<=1024):(aB d k).1.text.size<=1024:=by
  unfold aB;generalize d.size-k+1=f
  induction f generalizing k with
  | zero=>simp[bw,ByteArray.size]
  | succ f ih =>
    rw[bw]
    split
    · split
      · simp[ByteArray.size]
      · exact ih _
    · split
      · simp[ByteArray.size]
      · exact lh d k hd
theorem jD(d:ByteArray)(k:Nat)(hd:d.size<=1024):(ak d k).1.text.size<=1024:=by
  unfold ak;generalize d.size-k+1=f
  induction f generalizing k with
  | zero=>simp[cn,ByteArray.size]
  | succ f ih =>
    rw[cn]
    split
    · split
      · exact ih _
      · exact qD d _ hd
    · exact lh d k hd
end Go.Proofs.YtlbhbocbakijbaaGreat

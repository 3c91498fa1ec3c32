import Derived.Test.YtpddjjabfbfifaaGreatG09
namespace Go.Proofs.YtpddjjabfbfifaaGreat
open Go.RowKit
set_option maxHeartbeats 40000000
def gO(d:Db)(x:ByteArray):Int:=if aI d.active x=false then 18 else if aI d.symbols x=true then 19 else 0
def hU(d:Db)(x:ByteArray):Int:=if aI d.constants x=false then 17 else 0
def fw(d:Db)(x:ByteArray):Int:=if 1<d.symbols.length then 16 else if aI d.active x=false then 18 else if aI d.typed x=true then 20 else 0
def eI(d:Db)(x:ByteArray):Int:=if aI d.constants x=true then 0 else if aI d.active x=false then 21 else if aI d.typed x=false then 22 else 0
def aU(d:Db)(x:ByteArray):Int :=
 if(d.kind==7)=true then(if aI d.symbols x=true∨dj d x=true then 13 else 0)
 else if(d.kind==8)=true then(if aI d.symbols x=true∨dB d x=true then 13 else 0)
 else if(d.kind==1)=true then gO d x
 else if d.symbols.length=0 then hU d x
 else if(d.kind==2)=true then fw d x
 else eI d x
theorem qt(b t o:Nat)(pre post:List Value)(d:Db)(H:Nat->Hd)(x:ByteArray)(w:World)(h:aN w b t pre post d H)(ho:pre.length=o)(hs:eS d 1073741824) :
  Calls Tryz.prog 256 #[.pointer (some ⟨b,o,none⟩),.string x] w fun e w'=>e=.returned (.int .i64 (gO d x))/\w'=w:=by
 obtain⟨q0,q1,q2,q3,q4,q5,q6,q7,q8,q9,q10,q11,q12⟩:=h.cells o ho;have hsl:=hs.symbols
 cases h1:aI d.active x <;> cases h2:aI d.symbols x
 all_goals
  go_enter Tryz.func256,Tryz.ntmps256;go_wp2_with (first | (go_at_call 269;refine(jm b t o pre post d H x _ (by exact h) ho hs.active).mono ?_;rintro e w1 ⟨rfl,rfl⟩) | (go_at_call 253;refine(dR (H 8) d.symbols x _ (by exact h.own 8) hs.symbols).mono ?_;rintro e w1 ⟨rfl,rfl⟩));go_ret;exact⟨am (by simp[gO,h1,h2]),rfl⟩
theorem pS(b t o:Nat)(pre post:List Value)(d:Db)(H:Nat->Hd)(x:ByteArray)(w:World)(h:aN w b t pre post d H)(ho:pre.length=o)(hs:eS d 1073741824) :
  Calls Tryz.prog 257 #[.pointer (some ⟨b,o,none⟩),.string x] w fun e w'=>e=.returned (.int .i64 (hU d x))/\w'=w:=by
 obtain⟨q0,q1,q2,q3,q4,q5,q6,q7,q8,q9,q10,q11,q12⟩:=h.cells o ho;have hsl:=hs.symbols
 cases h1:aI d.constants x
 all_goals
  go_enter Tryz.func257,Tryz.ntmps257;go_wp2_with (first | (go_at_call 270;refine(lj b t o pre post d H x _ (by exact h) ho hs.constants).mono ?_;rintro e w1 ⟨rfl,rfl⟩));go_ret;exact⟨am (by simp[hU,h1]),rfl⟩
theorem pJ(b t o:Nat)(pre post:List Value)(d:Db)(H:Nat->Hd)(x:ByteArray)(w:World)(h:aN w b t pre post d H)(ho:pre.length=o)(hs:eS d 1073741824) :
  Calls Tryz.prog 258 #[.pointer (some ⟨b,o,none⟩),.string x] w fun e w'=>e=.returned (.int .i64 (fw d x))/\w'=w:=by
 obtain⟨q0,q1,q2,q3,q4,q5,q6,q7,q8,q9,q10,q11,q12⟩:=h.cells o ho;have hsl:=hs.symbols
 by_cases h0:1<d.symbols.length
 ·go_enter Tryz.func258,Tryz.ntmps258
  go_wp2_with (first | (go_at_call 269;refine(jm b t o pre post d H x _ (by exact h) ho hs.active).mono ?_;rintro e w1 ⟨rfl,rfl⟩) | (go_at_call 271;refine(lM b t o pre post d H x _ (by exact h) ho hs.typed).mono ?_;rintro e w1 ⟨rfl,rfl⟩));go_ret;exact⟨am (by simp[fw,h0]),rfl⟩
 ·cases h1:aI d.active x <;> cases h2:aI d.typed x
  all_goals
   go_enter Tryz.func258,Tryz.ntmps258;go_wp2_with (first | (go_at_call 269;refine(jm b t o pre post d H x _ (by exact h) ho hs.active).mono ?_;rintro e w1 ⟨rfl,rfl⟩) | (go_at_call 271;refine(lM b t o pre post d H x _ (by exact h) ho hs.typed).mono ?_;rintro e w1 ⟨rfl,rfl⟩));go_ret;exact⟨am (by simp[fw,h0,h1,h2]),rfl⟩
theorem oD(b t o:Nat)(pre post:List Value)(d:Db)(H:Nat->Hd)(x:ByteArray)(w:World)(h:aN w b t pre post d H)(ho:pre.length=o)(hs:eS d 1073741824) :
  Calls Tryz.prog 259 #[.pointer (some ⟨b,o,none⟩),.string x] w fun e w'=>e=.returned (.int .i64 (eI d x))/\w'=w:=by
 obtain⟨q0,q1,q2,q3,q4,q5,q6,q7,q8,q9,q10,q11,q12⟩:=h.cells o ho;have hsl:=hs.symbols
 cases h0:aI d.constants x
 ·cases h1:aI d.active x <;> cases h2:aI d.typed x
  all_goals
   go_enter Tryz.func259,Tryz.ntmps259;go_wp2_with (first | (go_at_call 270;refine(lj b t o pre post d H x _ (by exact h) ho hs.constants).mono ?_;rintro e w1 ⟨rfl,rfl⟩) | (go_at_call 269;refine(jm b t o pre post d H x _ (by exact h) ho hs.active).mono ?_;rintro e w1 ⟨rfl,rfl⟩) | (go_at_call 271;refine(lM b t o pre post d H x _ (by exact h) ho hs.typed).mono ?_;rintro e w1 ⟨rfl,rfl⟩));go_ret;exact⟨am (by simp[eI,h0,h1,h2]),rfl⟩
 ·go_enter Tryz.func259,Tryz.ntmps259
  go_wp2_with (first | (go_at_call 270;refine(lj b t o pre post d H x _ (by exact h) ho hs.constants).mono ?_;rintro e w1 ⟨rfl,rfl⟩) | (go_at_call 269;refine(jm b t o pre post d H x _ (by exact h) ho hs.active).mono ?_;rintro e w1 ⟨rfl,rfl⟩) | (go_at_call 271;refine(lM b t o pre post d H x _ (by exact h) ho hs.typed).mono ?_;rintro e w1 ⟨rfl,rfl⟩));go_ret;exact⟨am (by simp[eI,h0]),rfl⟩
theorem m9(b t o:Nat)(pre post:List Value)(d:Db)(H:Nat->Hd)(x:ByteArray)(w:World)(h:aN w b t pre post d H)(ho:pre.length=o)(hs:eS d 1073741824) :
  Calls Tryz.prog 236 #[.pointer (some ⟨b,o,none⟩),.string x] w fun e w'=>e=.returned (.int .i64 (aU d x))/\w'=w:=by
 obtain⟨q0,q1,q2,q3,q4,q5,q6,q7,q8,q9,q10,q11,q12⟩:=h.cells o ho;have hsl:=hs.symbols
 cases k2:(d.kind==7)
 ·cases k3:(d.kind==8)
  ·cases k4:(d.kind==1)
   ·by_cases hz:d.symbols.length=0
    ·have HT:Hid (aU d x=hU d x):=by show aU d x=_;simp only[aU,k2,k3,k4,hz];simp
     have hz1:((d.symbols.length:Int)==0)=true:=by simp[hz]
     clear hz;go_enter Tryz.func236,Tryz.ntmps236;go_wp2_with (first | (go_at_call 257;refine(pS b t o pre post d H x _ (by exact h) ho hs).mono ?_;rintro e w1 ⟨rfl,rfl⟩));go_ret;exact⟨am (by rw[HT.out]),rfl⟩
    ·have hz1:((d.symbols.length:Int)==0)=false:=beq_eq_false_iff_ne.2 (by omega)
     cases k5:(d.kind==2)
     ·have HT:Hid (aU d x=eI d x):=by show aU d x=_;simp[aU,k2,k3,k4,k5,hz]
      clear hz;go_enter Tryz.func236,Tryz.ntmps236;go_wp2_with (first | (go_at_call 259;refine(oD b t o pre post d H x _ (by exact h) ho hs).mono ?_;rintro e w1 ⟨rfl,rfl⟩));go_ret;exact⟨am (by rw[HT.out]),rfl⟩
     ·have HT:Hid (aU d x=fw d x):=by show aU d x=_;simp[aU,k2,k3,k4,k5,hz]
      clear hz;go_enter Tryz.func236,Tryz.ntmps236;go_wp2_with (first | (go_at_call 258;refine(pJ b t o pre post d H x _ (by exact h) ho hs).mono ?_;rintro e w1 ⟨rfl,rfl⟩));go_ret;exact⟨am (by rw[HT.out]),rfl⟩
   ·have HT:Hid (aU d x=gO d x):=by show aU d x=_;simp[aU,k2,k3,k4]
    go_enter Tryz.func236,Tryz.ntmps236;go_wp2_with (first | (go_at_call 256;refine(qt b t o pre post d H x _ (by exact h) ho hs).mono ?_;rintro e w1 ⟨rfl,rfl⟩));go_ret;exact⟨am (by rw[HT.out]),rfl⟩
  ·cases h1:aI d.symbols x <;> cases h2:dB d x
   all_goals
    go_enter Tryz.func236,Tryz.ntmps236;go_wp2_with (first | (go_at_call 253;refine(dR (H 8) d.symbols x _ (by exact h.own 8) hs.symbols).mono ?_;rintro e w1 ⟨rfl,rfl⟩) | (go_at_call 255;refine(xv b t o pre post d H x _ (by exact h) ho hs).mono ?_;rintro e w1 ⟨rfl,rfl⟩));go_ret;exact⟨am (by simp[aU,k2,k3,h1,h2]),rfl⟩
 ·cases h1:aI d.symbols x <;> cases h2:dj d x
  all_goals
   go_enter Tryz.func236,Tryz.ntmps236;go_wp2_with (first | (go_at_call 253;refine(dR (H 8) d.symbols x _ (by exact h.own 8) hs.symbols).mono ?_;rintro e w1 ⟨rfl,rfl⟩) | (go_at_call 254;refine(kj b t o pre post d H x _ (by exact h) ho hs).mono ?_;rintro e w1 ⟨rfl,rfl⟩));go_ret;exact⟨am (by simp[aU,k2,h1,h2]),rfl⟩
theorem eS.mono{d:Db}{N M:Nat}(h:eS d N)(hl:N<=M):eS d M :=
 ⟨Nat.le_trans h.labels hl,Nat.le_trans h.constants hl,Nat.le_trans h.variables hl,Nat.le_trans h.active hl,Nat.le_trans h.typed hl,Nat.le_trans h.blocks hl,Nat.le_trans h.sts hl,Nat.le_trans h.rbl hl,Nat.le_trans h.symbols hl,Nat.le_trans h.proof hl⟩
theorem aN.kind{w:World}{b t:Nat}{pre post:List Value}{d:Db}{H:Nat->Hd}(h:aN w b t pre post d H)(o:Nat)(ho:pre.length=o)(k:Int) :
  Hid (aN (w.setCell ⟨b,o+8,none⟩ (.int .i64 k)) b t pre post { d with kind:=k } H/\aw b w H (w.setCell ⟨b,o+8,none⟩ (.int .i64 k)) H) :=
 h.set (d':={ d with kind:=k }) o 8 ho (EM d H k) _ (by omega) rfl
theorem aN.lab{w:World}{b t:Nat}{pre post:List Value}{d:Db}{H:Nat->Hd}(h:aN w b t pre post d H)(o:Nat)(ho:pre.length=o)(k:ByteArray) :
  Hid (aN (w.setCell ⟨b,o+9,none⟩ (.string k)) b t pre post { d with label:=k } H/\aw b w H (w.setCell ⟨b,o+9,none⟩ (.string k)) H) :=
 h.set (d':={ d with label:=k }) o 9 ho (AU d H k) _ (by omega) rfl
theorem aN.inProof{w:World}{b t:Nat}{pre post:List Value}{d:Db}{H:Nat->Hd}(h:aN w b t pre post d H)(o:Nat)(ho:pre.length=o)(k:Bool) :
  Hid (aN (w.setCell ⟨b,o+11,none⟩ (.bool k)) b t pre post { d with inProof:=k } H/\aw b w H (w.setCell ⟨b,o+11,none⟩ (.bool k)) H) :=
 h.set (d':={ d with inProof:=k }) o 11 ho (xJ d H k) _ (by omega) rfl
theorem aN.forget{w:World}{b t:Nat}{pre post:List Value}{d:Db}{H:Nat->Hd}(h:aN w b t pre post d H)(o:Nat)(ho:pre.length=o) :
  aN (w.setCell ⟨b,o+10,none⟩ (.slice none 0 0)) b t pre post { d with symbols:=[] } (fI H 8 ⟨none,0⟩)/\aw b w H (w.setCell ⟨b,o+10,none⟩ (.slice none 0 0)) (fI H 8 ⟨none,0⟩) :=
 h.put (d':={ d with symbols:=[] }) o 10 ho 8 (by omega) ⟨none,0⟩ ⟨by simp[aP,aD,dN],Or.inl ⟨by simp[aP,aD],by simp[aP,aD]⟩⟩ (World.grownBy.refl _ _) (Or.inl rfl) (pV d H []) _ (by omega) (by simp[bU,fI])
theorem aN.noProof{w:World}{b t:Nat}{pre post:List Value}{d:Db}{H:Nat->Hd}(h:aN w b t pre post d H)(o:Nat)(ho:pre.length=o) :
  aN (w.setCell ⟨b,o+12,none⟩ (.slice none 0 0)) b t pre post { d with proof:=[] } (fI H 9 ⟨none,0⟩)/\aw b w H (w.setCell ⟨b,o+12,none⟩ (.slice none 0 0)) (fI H 9 ⟨none,0⟩) :=
 h.put (d':={ d with proof:=[] }) o 12 ho 9 (by omega) ⟨none,0⟩ ⟨by simp[aP,fA,lP],Or.inl ⟨by simp[aP,fA],by simp[aP,fA]⟩⟩ (World.grownBy.refl _ _) (Or.inl rfl) (ue d H []) _ (by omega) (by simp[bU,fI])
def aJ(d:Db)(x:ByteArray):Int×Db :=
 if(x.toList == [36,102])=true then(0,{ d with kind:=2 })
 else if(x.toList == [36,101])=true then(0,{ d with kind:=3 })
 else if(x.toList == [36,97])=true then(0,{ d with kind:=4 })
 else if(x.toList == [36,112])=true then(0,{ d with kind:=5 })
 else(14,d)
def bY(d:Db):Int×Db:=if d.symbols.length=0 then(15,d) else(0,{ d with inProof:=true })
def bH(d:Db)(x:ByteArray):Int×Db :=
 if dw x=true then(8,d) else if fC x=false then(12,d) else if dj d x=true then(13,d)
 else(0,{ d with labels:=d.labels++[x],label:=x,kind:=6 })
def kR(d:Db)(p:Pl):Int×Db :=
 if(d.symbols.length:Int)<ln d then(15,d)
 else if(d.kind==5)=true/\d.inProof=false then(23,d)
 else(0,{ bu d p with kind:=0,label:=⟨#[]⟩,symbols:=[],inProof:=false,proof:=[] })
def cv(d:Db)(q:Nat×Nat):Db :=
 match d.rbl.getLast? with
 | none=>cQ d d.blocks.dropLast q
 | some x=>{ cQ d d.blocks.dropLast q with rbl:=d.rbl.dropLast,sts:=jk d.sts x }
def ay(d:Db)(x:ByteArray):Int×Db :=
 if(x.toList == [36,123])=true then(0,{ d with blocks:=d.blocks++[(d.active.length,d.typed.length)],rbl:=d.rbl++[d.sts.length] })
 else if(x.toList == [36,125])=true then(match d.blocks.getLast? with | none=>(9,d) | some p=>(0,cv d p))
 else if(x.toList == [36,99])=true then(if 0<d.blocks.length then(10,d) else(0,{ d with kind:=7 }))
 else if(x.toList == [36,118])=true then(0,{ d with kind:=8 })
 else if(x.toList == [36,100])=true then(0,{ d with kind:=1 })
 else if(x.toList == [36,102])=true∨(x.toList == [36,101])=true∨(x.toList == [36,97])=true∨(x.toList == [36,112])=true then(11,d)
 else bH d x
def aV(d:Db)(x:ByteArray)(p:Pl):Int×Db :=
 if(d.kind==0)=true then ay d x
 else if(d.kind==6)=true then aJ d x
 else if(x.toList == [36,46])=true then kR d p
 else if(x.toList == [36,61])=true/\(d.kind==5)=true/\d.inProof=false then bY d
 else if dw x=true then(8,d)
 else if d.inProof=true then(0,{ d with proof:=d.proof++[(x,p)] })
 else if(aU d x==0)=true then(0,{ d with symbols:=d.symbols++[x] })
 else(aU d x,d)
set_option maxRecDepth 100000 in
theorem sg(b t o:Nat)(pre post:List Value)(d:Db)(H:Nat->Hd)(x:ByteArray)(w:World)(h:aN w b t pre post d H)(ho:pre.length=o) :
  Calls Tryz.prog 233 #[.pointer (some ⟨b,o,none⟩),.string x] w fun e w'=>e=.returned (.int .i64 (aJ d x).1)/\∃H',aN w' b t pre post (aJ d x).2 H'/\aw b w H w' H':=by
 obtain⟨q0,q1,q2,q3,q4,q5,q6,q7,q8,q9,q10,q11,q12⟩:=h.cells o ho;have hfr:=h.free
 cases e102:(x.toList == [36,102])
 ·cases e101:(x.toList == [36,101])
  ·cases e97:(x.toList == [36,97])
   ·cases e112:(x.toList == [36,112])
    ·have HT:Hid (aJ d x=(14,d)):=by show aJ d x=_;simp only[aJ,e102,e101,e97,e112];simp
     go_enter Tryz.func233,Tryz.ntmps233;go_wp2;go_ret;exact⟨am (by rw[HT.out]),H,by rw[HT.out];exact h,aw.refl _ _ _⟩
    ·have HT:Hid (aJ d x=(0,{ d with kind:=5 })):=by show aJ d x=_;simp only[aJ,e102,e101,e97,e112];simp
     have HK:=h.kind o ho 5;go_enter Tryz.func233,Tryz.ntmps233;go_wp2;go_ret;exact⟨am (by rw[HT.out]),H,by rw[HT.out];exact HK.out.1,HK.out.2⟩
   ·have HT:Hid (aJ d x=(0,{ d with kind:=4 })):=by show aJ d x=_;simp only[aJ,e102,e101,e97];simp
    have HK:=h.kind o ho 4;go_enter Tryz.func233,Tryz.ntmps233;go_wp2;go_ret;exact⟨am (by rw[HT.out]),H,by rw[HT.out];exact HK.out.1,HK.out.2⟩
  ·have HT:Hid (aJ d x=(0,{ d with kind:=3 })):=by show aJ d x=_;simp only[aJ,e102,e101];simp
   have HK:=h.kind o ho 3;go_enter Tryz.func233,Tryz.ntmps233;go_wp2;go_ret;exact⟨am (by rw[HT.out]),H,by rw[HT.out];exact HK.out.1,HK.out.2⟩
 ·have HT:Hid (aJ d x=(0,{ d with kind:=2 })):=by show aJ d x=_;simp only[aJ,e102];simp
  have HK:=h.kind o ho 2;go_enter Tryz.func233,Tryz.ntmps233;go_wp2;go_ret;exact⟨am (by rw[HT.out]),H,by rw[HT.out];exact HK.out.1,HK.out.2⟩
set_option maxRecDepth 100000 in
theorem sR(b t o:Nat)(pre post:List Value)(d:Db)(H:Nat->Hd)(w:World)(h:aN w b t pre post d H)(ho:pre.length=o) :
  Calls Tryz.prog 235 #[.pointer (some ⟨b,o,none⟩)] w fun e w'=>e=.returned (.int .i64 (bY d).1)/\∃H',aN w' b t pre post (bY d).2 H'/\aw b w H w' H':=by
 obtain⟨q0,q1,q2,q3,q4,q5,q6,q7,q8,q9,q10,q11,q12⟩:=h.cells o ho;have hfr:=h.free
 by_cases hz:d.symbols.length=0
 ·have HT:Hid (bY d=(15,d)):=by show bY d=_;simp only[bY,hz];simp
  have hz1:((d.symbols.length:Int)==0)=true:=by simp[hz]
  clear hz;go_enter Tryz.func235,Tryz.ntmps235;go_wp2;go_ret;exact⟨am (by rw[HT.out]),H,by rw[HT.out];exact h,aw.refl _ _ _⟩
 ·have HT:Hid (bY d=(0,{ d with inProof:=true })):=by show bY d=_;simp only[bY,hz];simp
  have hz1:((d.symbols.length:Int)==0)=false:=beq_eq_false_iff_ne.2 (by omega);have HK:=h.inProof o ho true;clear hz;go_enter Tryz.func235,Tryz.ntmps235;go_wp2;go_ret;exact⟨am (by rw[HT.out]),H,by rw[HT.out];exact HK.out.1,HK.out.2⟩
set_option maxRecDepth 100000 in
theorem vm(b t o:Nat)(pre post:List Value)(d:Db)(H:Nat->Hd)(x:ByteArray)(w:World)(h:aN w b t pre post d H)(ho:pre.length=o)(hs:eS d 100000000)(hx:x.size<=1073741824) :
  Calls Tryz.prog 250 #[.pointer (some ⟨b,o,none⟩),.string x] w fun e w'=>e=.returned (.int .i64 (bH d x).1)/\∃H',aN w' b t pre post (bH d x).2 H'/\aw b w H w' H':=by
 obtain⟨q0,q1,q2,q3,q4,q5,q6,q7,q8,q9,q10,q11,q12⟩:=h.cells o ho;have hfr:=h.free
 cases h1:dw x
 ·cases h2:fC x
  ·have HT:Hid (bH d x=(12,d)):=by show bH d x=_;simp[bH,h1,h2]
   go_enter Tryz.func250,Tryz.ntmps250;go_wp2_with (first | (go_at_call 231;refine(dH x _ hx).mono ?_;rintro e w1 ⟨rfl,rfl⟩) | (go_at_call 263;refine(lJ x _ hx).mono ?_;rintro e w1 ⟨rfl,rfl⟩) | (go_at_call 254;refine(kj b t o pre post d H x _ (by exact h) ho (hs.mono (by omega))).mono ?_;rintro e w1 ⟨rfl,rfl⟩));go_ret;exact⟨am (by rw[HT.out]),H,by rw[HT.out];exact h,aw.refl _ _ _⟩
  ·cases h3:dj d x
   ·have HT:Hid (bH d x=(0,{ d with labels:=d.labels++[x],label:=x,kind:=6 })):=by show bH d x=_;simp[bH,h1,h2,h3]
    have hll:=hs.labels;go_enter Tryz.func250,Tryz.ntmps250;go_wp2_with (first | (go_at_call 231;refine(dH x _ hx).mono ?_;rintro e w1 ⟨rfl,rfl⟩) | (go_at_call 263;refine(lJ x _ hx).mono ?_;rintro e w1 ⟨rfl,rfl⟩) | (go_at_call 254;refine(kj b t o pre post d H x _ (by exact h) ho (hs.mono (by omega))).mono ?_;rintro e w1 ⟨rfl,rfl⟩));refine(xP b t o pre post d H x _ (by exact h) ho (by omega)).mono ?_;rintro e w2 ⟨rfl,H2,D2,T2⟩;have HL:=D2.lab o ho x;have HK:=HL.out.1.kind o ho 6;clear q0 q1 q2 q3 q4 q5 q6 q7 q8 q9 q10 q11 q12 hfr;obtain⟨q0,q1,q2,q3,q4,q5,q6,q7,q8,q9,q10,q11,q12⟩:=D2.cells o ho;have hfr:=D2.free;go_wp2;go_ret;exact⟨am (by rw[HT.out]),H2,by rw[HT.out];exact HK.out.1,T2.trans (HL.out.2.trans HK.out.2)⟩
   ·have HT:Hid (bH d x=(13,d)):=by show bH d x=_;simp[bH,h1,h2,h3]
    go_enter Tryz.func250,Tryz.ntmps250;go_wp2_with (first | (go_at_call 231;refine(dH x _ hx).mono ?_;rintro e w1 ⟨rfl,rfl⟩) | (go_at_call 263;refine(lJ x _ hx).mono ?_;rintro e w1 ⟨rfl,rfl⟩) | (go_at_call 254;refine(kj b t o pre post d H x _ (by exact h) ho (hs.mono (by omega))).mono ?_;rintro e w1 ⟨rfl,rfl⟩));go_ret;exact⟨am (by rw[HT.out]),H,by rw[HT.out];exact h,aw.refl _ _ _⟩
 ·have HT:Hid (bH d x=(8,d)):=by show bH d x=_;simp[bH,h1]
  go_enter Tryz.func250,Tryz.ntmps250;go_wp2_with (first | (go_at_call 231;refine(dH x _ hx).mono ?_;rintro e w1 ⟨rfl,rfl⟩) | (go_at_call 263;refine(lJ x _ hx).mono ?_;rintro e w1 ⟨rfl,rfl⟩) | (go_at_call 254;refine(kj b t o pre post d H x _ (by exact h) ho (hs.mono (by omega))).mono ?_;rintro e w1 ⟨rfl,rfl⟩));go_ret;exact⟨am (by rw[HT.out]),H,by rw[HT.out];exact h,aw.refl _ _ _⟩
theorem Ec(d:Db):1<=ln d:=by unfold ln;split <;> omega
set_option maxRecDepth 100000 in
theorem Jm(b t o:Nat)(pre post:List Value)(d:Db)(H:Nat->Hd)(f:ByteArray)(l c:Int)(w:World)(h:aN w b t pre post d H)(ho:pre.length=o)(hs:eS d 10000000) :
  Calls Tryz.prog 234 #[.pointer (some ⟨b,o,none⟩),.agg #[.string f,.int .i64 l,.int .i64 c]] w fun e w'=>e=.returned (.int .i64 (kR d ⟨f,l,c⟩).1)/\∃H',aN w' b t pre post (kR d ⟨f,l,c⟩).2 H'/\aw b w H w' H':=by
 obtain⟨W,hW⟩:∃W,W=w.alloc (.cells #[.string f,.int .i64 l,.int .i64 c] 36):=⟨_,rfl⟩
 have K:ab [] w W:=by rw[hW];exact(ab.refl [] _).alloc _
 have D:=h.still K;have HW:=(show Hid _ from hW.symm);have B:W.heap[w.heap.size]?=some (.cells #[.string f,.int .i64 l,.int .i64 c] 36 (0,0)):=by rw[hW];exact heap_alloc_new _ _
 have p0:W.cell? ⟨w.heap.size,0,none⟩=some (.string f):=by rw[aa B];rfl
 have p1:W.cell? ⟨w.heap.size,1,none⟩=some (.int .i64 l):=by rw[aa B];rfl
 have p2:W.cell? ⟨w.heap.size,2,none⟩=some (.int .i64 c):=by rw[aa B];rfl
 clear hW B h;obtain⟨q0,q1,q2,q3,q4,q5,q6,q7,q8,q9,q10,q11,q12⟩:=D.cells o ho;clear q0 q1 q2 q3 q4 q5 q6 q7 q9 q12;have hfr:=D.free
 by_cases hlt:(d.symbols.length:Int)<ln d
 ·have HT:Hid (kR d ⟨f,l,c⟩=(15,d)):=by show kR d ⟨f,l,c⟩=_;simp only[kR,if_pos hlt]
  go_enter Tryz.func234,Tryz.ntmps234
  go_upto_region 1 with fail
  rw[HW.out]
  go_quiet ((go_at_call 251;exact Calls.quiet_of_same (qS b t o pre post d H _ (D.still ((ab.refl [] W).drewN _)) ho)))
  go_wp2;go_ret;exact⟨am (by rw[HT.out]),H,by rw[HT.out];exact D.still ((ab.refl [] _).drewN _),(aw.refl _ _ _).still (K.drewN _)⟩
 ·have hsp:Hid (0<d.symbols.length):=by have:=Ec d;show 0<_;omega
  by_cases hr:(d.kind==5)=true/\d.inProof=false
  ·have HT:Hid (kR d ⟨f,l,c⟩=(23,d)):=by show kR d ⟨f,l,c⟩=_;simp only[kR,if_neg hlt,if_pos hr]
   obtain⟨k5,hp⟩:=hr;rw[hp]at q11;go_enter Tryz.func234,Tryz.ntmps234
   go_upto_region 1 with fail
   rw[HW.out]
   go_quiet ((go_at_call 251;exact Calls.quiet_of_same (qS b t o pre post d H _ (D.still ((ab.refl [] W).drewN _)) ho)))
   go_wp2;go_ret;exact⟨am (by rw[HT.out]),H,by rw[HT.out];exact D.still ((ab.refl [] _).drewN _),(aw.refl _ _ _).still (K.drewN _)⟩
  ·have HT:Hid (kR d ⟨f,l,c⟩=(0,{ bu d ⟨f,l,c⟩ with kind:=0,label:=⟨#[]⟩,symbols:=[],inProof:=false,proof:=[] })):=by show kR d ⟨f,l,c⟩=_;simp only[kR,if_neg hlt,if_neg hr]
   have hp5:(d.kind==5)=true->d.inProof=true:=by
    intro k5
    cases hq:d.inProof with
    | true=>rfl
    | false=>exact absurd ⟨k5,hq⟩ hr
   cases k5:(d.kind==5)
   all_goals
    try rw[hp5 k5]at q11
    clear hp5;clear hr;go_enter Tryz.func234,Tryz.ntmps234
    go_upto_region 1 with fail
    rw[HW.out]
    go_quiet ((go_at_call 251;exact Calls.quiet_of_same (qS b t o pre post d H _ (D.still ((ab.refl [] W).drewN _)) ho)))
    go_wp2_with fail;refine(zY b t o pre post d H f l c _ (by exact D.still ((ab.refl [] _).drewN _)) ho hsp.out hs).mono ?_;rintro e w2 ⟨rfl,H2,D2,T2⟩;have K1:=D2.kind o ho 0;have K2:=K1.out.1.lab o ho ⟨#[]⟩;have K3:=(show Hid _ from K2.out.1.forget o ho);have K4:=K3.out.1.inProof o ho false;have K5:=(show Hid _ from K4.out.1.noProof o ho);clear q8 q10 q11 hfr p0 p1 p2;obtain⟨q0,q1,q2,q3,q4,q5,q6,q7,q8,q9,q10,q11,q12⟩:=D2.cells o ho;clear q0 q1 q2 q3 q4 q5 q6 q7;have hfr:=D2.free;go_wp2;go_ret;exact⟨am (by rw[HT.out]),_,by rw[HT.out];exact K5.out.1,(T2.first (K.drewN _)).trans (K1.out.2.trans (K2.out.2.trans (K3.out.2.trans (K4.out.2.trans K5.out.2))))⟩
theorem pa{α:Type}{l:List α}{p:α}(h:l.getLast?=some p):l=l.dropLast++[p]:=by
 obtain⟨ys,rfl⟩:=List.getLast?_eq_some_iff.1 h;simp
structure yF(d:Db)(N:Nat):Prop where
 names:∀p,p∈d.blocks->p.1<=N/\p.2<=N
 same:d.rbl.length=d.blocks.length
 recs:∀x,x∈d.rbl->x<=d.sts.length
set_option maxRecDepth 100000 in
theorem vi(b t o:Nat)(pre post:List Value)(d:Db)(H:Nat->Hd)(x:ByteArray)(w:World)(h:aN w b t pre post d H)(ho:pre.length=o)(hs1:eS d 10000000)(hx:x.size<=1073741824)(hi:yF d 100000000) :
  Calls Tryz.prog 232 #[.pointer (some ⟨b,o,none⟩),.string x] w fun e w'=>e=.returned (.int .i64 (ay d x).1)/\∃H',aN w' b t pre post (ay d x).2 H'/\aw b w H w' H':=by
 have hs:=hs1.mono (M:=100000000) (by omega);obtain⟨q0,q1,q2,q3,q4,q5,q6,q7,q8,q9,q10,q11,q12⟩:=h.cells o ho;have hfr:=h.free
 cases e123:(x.toList == [36,123])
 ·cases e125:(x.toList == [36,125])
  ·cases e99:(x.toList == [36,99])
   ·cases e118:(x.toList == [36,118])
    ·cases e100:(x.toList == [36,100])
     ·cases e102:(x.toList == [36,102])
      ·cases e101:(x.toList == [36,101])
       ·cases e97:(x.toList == [36,97])
        ·cases e112:(x.toList == [36,112])
         ·have HT:Hid (ay d x=bH d x):=by show ay d x=_;simp only[ay,e123,e125,e99,e118,e100,e102,e101,e97,e112];simp
          go_enter Tryz.func232,Tryz.ntmps232;go_wp2_with fail;refine(vm b t o pre post d H x _ (by exact h) ho hs hx).mono ?_;rintro e w2 ⟨rfl,H2,D2,T2⟩;go_wp2;go_ret;exact⟨am (by rw[HT.out]),H2,by rw[HT.out];exact D2,T2⟩
         ·have HT:Hid (ay d x=(11,d)):=by show ay d x=_;simp only[ay,e123,e125,e99,e118,e100,e102,e101,e97,e112];simp
          go_enter Tryz.func232,Tryz.ntmps232;go_wp2;go_ret;exact⟨am (by rw[HT.out]),H,by rw[HT.out];exact h,aw.refl _ _ _⟩
        ·have HT:Hid (ay d x=(11,d)):=by show ay d x=_;simp only[ay,e123,e125,e99,e118,e100,e102,e101,e97];simp
         go_enter Tryz.func232,Tryz.ntmps232;go_wp2;go_ret;exact⟨am (by rw[HT.out]),H,by rw[HT.out];exact h,aw.refl _ _ _⟩
       ·have HT:Hid (ay d x=(11,d)):=by show ay d x=_;simp only[ay,e123,e125,e99,e118,e100,e102,e101];simp
        go_enter Tryz.func232,Tryz.ntmps232;go_wp2;go_ret;exact⟨am (by rw[HT.out]),H,by rw[HT.out];exact h,aw.refl _ _ _⟩
      ·have HT:Hid (ay d x=(11,d)):=by show ay d x=_;simp only[ay,e123,e125,e99,e118,e100,e102];simp
       go_enter Tryz.func232,Tryz.ntmps232;go_wp2;go_ret;exact⟨am (by rw[HT.out]),H,by rw[HT.out];exact h,aw.refl _ _ _⟩
     ·have HT:Hid (ay d x=(0,{ d with kind:=1 })):=by show ay d x=_;simp only[ay,e123,e125,e99,e118,e100];simp
      have HK:=h.kind o ho 1;go_enter Tryz.func232,Tryz.ntmps232;go_wp2;go_ret;exact⟨am (by rw[HT.out]),H,by rw[HT.out];exact HK.out.1,HK.out.2⟩
    ·have HT:Hid (ay d x=(0,{ d with kind:=8 })):=by show ay d x=_;simp only[ay,e123,e125,e99,e118];simp
     have HK:=h.kind o ho 8;go_enter Tryz.func232,Tryz.ntmps232;go_wp2;go_ret;exact⟨am (by rw[HT.out]),H,by rw[HT.out];exact HK.out.1,HK.out.2⟩
   ·by_cases hb0:0<d.blocks.length
    ·have HT:Hid (ay d x=(10,d)):=by show ay d x=_;simp only[ay,e123,e125,e99,hb0];simp
     have hd0:decide (0<d.blocks.length)=true:=by simpa using hb0
     clear hb0;go_enter Tryz.func232,Tryz.ntmps232;go_wp2_with (go_at_call 207;refine(kn b t o pre post d H _ (by exact h) ho).mono ?_;rintro e w1 ⟨rfl,rfl⟩);go_ret;exact⟨am (by rw[HT.out]),H,by rw[HT.out];exact h,aw.refl _ _ _⟩
    ·have HT:Hid (ay d x=(0,{ d with kind:=7 })):=by show ay d x=_;simp only[ay,e123,e125,e99,hb0];simp
     have hd0:decide (0<d.blocks.length)=false:=by simpa using hb0
     have HK:=h.kind o ho 7;clear hb0;go_enter Tryz.func232,Tryz.ntmps232;go_wp2_with (go_at_call 207;refine(kn b t o pre post d H _ (by exact h) ho).mono ?_;rintro e w1 ⟨rfl,rfl⟩);go_ret;exact⟨am (by rw[HT.out]),H,by rw[HT.out];exact HK.out.1,HK.out.2⟩
  ·rcases hbb:d.blocks.getLast? with _ | p
   ·have hb0:d.blocks=[]:=by simpa using hbb
    have HT:Hid (ay d x=(9,d)):=by show ay d x=_;simp only[ay,e123,e125,hbb];simp
    have hd0:decide (0<d.blocks.length)=false:=by rw[hb0];rfl
    clear hbb hb0;go_enter Tryz.func232,Tryz.ntmps232;go_wp2_with (go_at_call 207;refine(kn b t o pre post d H _ (by exact h) ho).mono ?_;rintro e w1 ⟨rfl,rfl⟩);go_ret;exact⟨am (by rw[HT.out]),H,by rw[HT.out];exact h,aw.refl _ _ _⟩
   ·have hb0:d.blocks=d.blocks.dropLast++[p]:=pa hbb
    have HT:Hid (ay d x=(0,cv d p)):=by show ay d x=_;simp only[ay,e123,e125,hbb];simp
    have hd0:decide (0<d.blocks.length)=true:=by rw[hb0];simp
    have HB:Hid (d.blocks=d.blocks.dropLast++[p]):=hb0;have hp:=hi.names p (by rw[hb0];simp);have hne:d.rbl≠[]:=by intro e;have:=hi.same;rw[e,hb0]at this;simp at this
    obtain⟨y,hy⟩:∃y,d.rbl.getLast?=some y:=⟨_,List.getLast?_eq_some_getLast hne⟩
    have HR:Hid (d.rbl=d.rbl.dropLast++[y]):=pa hy;have hyl:=hi.recs y (by rw[HR.out];simp);have HE:Hid (cv d p={ cQ d d.blocks.dropLast p with rbl:=d.rbl.dropLast,sts:=jk d.sts y }):=by show cv d p=_;unfold cv;rw[hy]
    have hs2:Hid (eS (cQ d d.blocks.dropLast p) 100000000):=⟨hs.labels,hs.constants,hs.variables,by have:=hs.active;simp only[cQ,List.length_take];omega,by have:=hs.typed;simp only[cQ,List.length_take];omega,by have:=hs.blocks;simp only[cQ,List.length_dropLast];omega,hs.sts,hs.rbl,hs.symbols,hs.proof⟩;clear hbb hb0 hne hy;go_enter Tryz.func232,Tryz.ntmps232;go_wp2_with (go_at_call 207;refine(kn b t o pre post d H _ (by exact h) ho).mono ?_;rintro e w1 ⟨rfl,rfl⟩);refine(wK b t o pre post d H d.blocks.dropLast p _ (by exact h) ho HB.out (hs.mono (by omega)) ⟨by omega,by omega⟩).mono ?_;rintro e w2 ⟨rfl,D2,T2⟩;go_wp2_with fail;refine(Ar b t o pre post (cQ d d.blocks.dropLast p) H d.rbl.dropLast y _ (by exact D2) ho HR.out hs2.out hyl).mono ?_;rintro e w3 ⟨rfl,D3,T3⟩;go_wp2;go_ret;exact⟨am (by rw[HT.out]),H,by rw[HT.out,HE.out];exact D3,T2.trans T3⟩
 ·have HT:Hid (ay d x=(0,{ d with blocks:=d.blocks++[(d.active.length,d.typed.length)],rbl:=d.rbl++[d.sts.length] })):=by show ay d x=_;simp only[ay,e123];simp
  have hbl:=hs.blocks;have hs2:Hid (eS { d with blocks:=d.blocks++[(d.active.length,d.typed.length)] } 100000000):=⟨hs.labels,hs.constants,hs.variables,hs.active,hs.typed,by have:=hs1.blocks;simp;omega,hs.sts,hs.rbl,hs.symbols,hs.proof⟩;go_enter Tryz.func232,Tryz.ntmps232;go_wp2_with fail;refine(ug b t o pre post d H _ (by exact h) ho (by omega)).mono ?_;rintro e w2 ⟨rfl,H2,D2,T2⟩;go_wp2_with fail;refine(wX b t o pre post { d with blocks:=d.blocks++[(d.active.length,d.typed.length)] } H2 _ (by exact D2) ho hs2.out).mono ?_;rintro e w3 ⟨rfl,H3,D3,T3⟩;go_wp2;go_ret;exact⟨am (by rw[HT.out]),H3,by rw[HT.out];exact D3,T2.trans T3⟩
theorem D0(x:ByteArray)(h:(x.toList == [36,61])=true):dw x=true:=by
 have:x=⟨#[36,61]⟩:=DM (by rw[ByteArray.toList_mk [36,61]];simpa using h);rw[this];decide +kernel
theorem Dy(l:List (ByteArray×Pl))(p:ByteArray×Pl):(⟨(fA l).e,(fA l).size,(fA l).n+1,(fA l).xs++oP p⟩:dK)=fA (l++[p]):=by
 simp[fA,lP]
def fU(b t o:Nat)(pre post:List Value)(d:Db)(H:Nat->Hd)(x f:ByteArray)(l c:Int)(w:World):Prop :=
 Calls Tryz.prog 206 #[.pointer (some ⟨b,o,none⟩),.string x,.agg #[.string f,.int .i64 l,.int .i64 c]] w fun e w'=>e=.returned (.int .i64 (aV d x ⟨f,l,c⟩).1)/\∃H',aN w' b t pre post (aV d x ⟨f,l,c⟩).2 H'/\aw b w H w' H'
theorem boxed{w:World}{b t:Nat}{pre post:List Value}{d:Db}{H:Nat->Hd}(h:aN w b t pre post d H)(f:ByteArray)(l c:Int) :
  ∃W,Hid (w.alloc (.cells #[.string f,.int .i64 l,.int .i64 c] 36)=W)/\ab [] w W/\aN W b t pre post d H/\W.cell? ⟨w.heap.size,0,none⟩=some (.string f)/\W.cell? ⟨w.heap.size,1,none⟩=some (.int .i64 l)/\W.cell? ⟨w.heap.size,2,none⟩=some (.int .i64 c):=by
 have B:(w.alloc (.cells #[.string f,.int .i64 l,.int .i64 c] 36)).heap[w.heap.size]?=some (.cells #[.string f,.int .i64 l,.int .i64 c] 36 (0,0)):=heap_alloc_new _ _;refine⟨_,rfl,(ab.refl [] _).alloc _,h.still ((ab.refl [] _).alloc _),?_,?_,?_⟩ <;> rw[aa B] <;> rfl
set_option maxRecDepth 100000 in
theorem yT(b t o:Nat)(pre post:List Value)(d:Db)(H:Nat->Hd)(x f:ByteArray)(l c:Int)(w:World)(h:aN w b t pre post d H)(ho:pre.length=o)(hs1:eS d 10000000)(hx:x.size<=1073741824)(k0:(d.kind==0)=false)(k1:(d.kind==6)=false)(e46:(x.toList == [36,46])=false)(e61:(x.toList == [36,61])=false)(hd:dw x=false)(hp:d.inProof=false) :
  fU b t o pre post d H x f l c w:=by
 unfold fU;have hs:=hs1.mono (M:=1073741824) (by omega);obtain⟨W,HW,K,D,p0,p1,p2⟩:=boxed h f l c;clear h;obtain⟨q0,q1,q2,q3,q4,q5,q6,q7,q8,q9,q10,q11,q12⟩:=D.cells o ho;clear q0 q1 q2 q3 q4 q5 q6 q7 q9 q12;have hfr:=D.free;rw[hp]at q11
 cases hc:(aU d x==0)
 ·have HT:Hid (aV d x ⟨f,l,c⟩=(aU d x,d)):=by show aV d x ⟨f,l,c⟩=_;simp[aV,k0,k1,e46,e61,hd,hp,hc]
  go_enter Tryz.func206,Tryz.ntmps206
  go_upto_region 1 with fail
  rw[HW.out];go_wp2_with (first | (go_at_call 231;refine(dH x _ hx).mono ?_;rintro e w1 ⟨rfl,rfl⟩) | (go_at_call 236;refine(m9 b t o pre post d H x _ (by exact D) ho hs).mono ?_;rintro e w1 ⟨rfl,rfl⟩));go_ret;exact⟨am (by rw[HT.out]),H,by rw[HT.out];exact D,(aw.refl _ _ _).still K⟩
 ·have HT:Hid (aV d x ⟨f,l,c⟩=(0,{ d with symbols:=d.symbols++[x] })):=by show aV d x ⟨f,l,c⟩=_;simp[aV,k0,k1,e46,e61,hd,hp,hc]
  have hc0:Hid (aU d x=0):=(show aU d x=0 by simpa using hc);have hsl:=hs1.symbols;obtain⟨i0,hi0,hz0,hz1,hz2⟩:=info_parts jI;have hA:=D.still ((ab.refl [] W).alloc (.cells #[.string x] 9));have hownA:=hA.own 8;have hbw:=D.lt;go_enter Tryz.func206,Tryz.ntmps206
  go_upto_region 1 with fail
  rw[HW.out];go_wp2_with (first | (go_at_call 231;refine(dH x _ hx).mono ?_;rintro e w1 ⟨rfl,rfl⟩) | (go_at_call 236;refine(m9 b t o pre post d H x _ (by exact D) ho hs).mono ?_;rintro e w1 ⟨rfl,rfl⟩) | (at_builtin;refine aM _ rfl (.tmp 74) (.tmp 76) 61 rfl i0 (.string ⟨#[]⟩) 16 (H 8) (aD d.symbols) Tryz.underlying61 hi0 hz0 hz1 hz2 rfl Nat.one_pos rfl (by exact hownA) ⟨_,0,none⟩ 1 1 [.string x] rfl rfl ?c1 ?c2 Nat.one_pos ?c3 ?c4 ?_))
  case c1=>intro j u hj;match j,hj with | 0,hj=>simp at hj;subst hj;simp[Addr.add]
  case c2=>intro u hu;simp at hu;subst hu;rfl
  case c3=>simp only[aD];unfold maxLen;omega
  case c4=>simp only[aD];omega
  intro g cap' w1 hw1 hgr hfresh;obtain⟨k0,f0,HP⟩:=hA.app (d':={ d with symbols:=d.symbols++[x] }) o 10 ho 8 (by omega) g cap' ((aD d.symbols).n+1) _ hw1 (dS d.symbols x) hgr (by simpa using hfresh) (pV d H _) (by omega) _ rfl (by simp[bU,fI,aD]);clear hA hownA q8 q10 q11 hw1 hgr hfresh hfr;go_wp2;go_ret;exact⟨am (by rw[HT.out,hc0.out]),_,by rw[HT.out];exact HP.out.1,HP.out.2.first (K.alloc _)⟩
set_option maxRecDepth 100000 in
theorem vn(b t o:Nat)(pre post:List Value)(d:Db)(H:Nat->Hd)(x f:ByteArray)(l c:Int)(w:World)(h:aN w b t pre post d H)(ho:pre.length=o)(hs1:eS d 10000000)(hx:x.size<=1073741824)(k0:(d.kind==0)=false)(k1:(d.kind==6)=false)(e46:(x.toList == [36,46])=false)(e61:(x.toList == [36,61])=false)(hd:dw x=false)(hp:d.inProof=true) :
  fU b t o pre post d H x f l c w:=by
 unfold fU;obtain⟨W,HW,K,D,p0,p1,p2⟩:=boxed h f l c;clear h;obtain⟨q0,q1,q2,q3,q4,q5,q6,q7,q8,q9,q10,q11,q12⟩:=D.cells o ho;clear q0 q1 q2 q3 q4 q5 q6 q7 q9 q10;have hfr:=D.free;rw[hp]at q11;have HT:Hid (aV d x ⟨f,l,c⟩=(0,{ d with proof:=d.proof++[(x,⟨f,l,c⟩)] })):=by show aV d x ⟨f,l,c⟩=_;simp[aV,k0,k1,e46,e61,hd,hp]
 have hsl:=hs1.proof;obtain⟨i0,hi0,hz0,hz1,hz2⟩:=info_parts J1;have hbw:=D.lt;have hD:Hid (aN (W.alloc (.cells #[.string x,.string f,.int .i64 l,.int .i64 c] 229)).drew b t pre post d H):=D.still ((ab.refl [] W).alloc _).drew
 have s2:Hid (∀j u,(oP (x,⟨f,l,c⟩))[j]?=some u->(W.alloc (.cells #[.string x,.string f,.int .i64 l,.int .i64 c] 229)).drew.cell? ((⟨W.heap.size,0,none⟩:Addr).add j)=some u):=by
  intro j u hj;have hk:(W.alloc (.cells #[.string x,.string f,.int .i64 l,.int .i64 c] 229)).drew.heap[W.heap.size]?=some (.cells #[.string x,.string f,.int .i64 l,.int .i64 c] 229 (0,0)):=heap_alloc_new _ _;rw[bK,aa hk];simpa [oP] using hj
 have s3:Hid (∀u∈oP (x,⟨f,l,c⟩),u.oneCell'=true):=by
  intro u hu;simp only[oP,List.mem_cons,List.not_mem_nil,or_false]at hu
  rcases hu with rfl | rfl | rfl | rfl <;> rfl
 have s4:Hid ((fA d.proof).n+1<=maxLen):=by show _<=_;simp only[fA];unfold maxLen;omega
 have s5:Hid (((fA d.proof).n+1)*48<=140737488355328):=by show _<=_;simp only[fA];omega
 go_enter Tryz.func206,Tryz.ntmps206
 go_upto_region 1 with fail
 rw[HW.out];go_wp2_with (go_at_call 231;refine(dH x _ hx).mono ?_;rintro e w1 ⟨rfl,rfl⟩)
 go_region_law (refine cd rfl (.tmp 57) (.tmp 61) 156 rfl i0 (.agg #[.string ⟨#[]⟩,.string ⟨#[]⟩,.int .i64 0,.int .i64 0]) 48 (H 9) (fA d.proof) Tryz.underlying156 hi0 hz0 hz1 hz2 rfl (Nat.succ_pos 3) (by simp[Act.eval] <;> rfl) (hD.out.own 9) ⟨_,0,none⟩ 1 1 (oP (x,⟨f,l,c⟩)) (by simp[Act.eval] <;> rfl) rfl s2.out s3.out Nat.one_pos s4.out s5.out ?_;intro g cap' w1 hw1 hgr hfresh;obtain⟨k5,f5,HP⟩:=hD.out.app (d':={ d with proof:=d.proof++[(x,⟨f,l,c⟩)] }) o 12 ho 9 (by omega) g cap' ((fA d.proof).n+1) _ hw1 (Dy d.proof (x,⟨f,l,c⟩)) hgr (by simpa using hfresh) (ue d H _) (by omega) _ rfl (by simp[bU,fI,fA]);clear hw1 hgr hfresh)
 all_goals go_wp2
 all_goals go_ret
 all_goals exact⟨am (by rw[HT.out]),_,by rw[HT.out];exact HP.out.1,HP.out.2.first (K.trans ((ab.refl [] _).alloc _).drew)⟩
set_option maxRecDepth 100000 in
theorem Bf(b t o:Nat)(pre post:List Value)(d:Db)(H:Nat->Hd)(x f:ByteArray)(l c:Int)(w:World)(h:aN w b t pre post d H)(ho:pre.length=o)(hx:x.size<=1073741824)(k0:(d.kind==0)=false)(k1:(d.kind==6)=false)(e46:(x.toList == [36,46])=false)(e61:(x.toList == [36,61])=true) :
  fU b t o pre post d H x f l c w:=by
 unfold fU;obtain⟨W,HW,K,D,p0,p1,p2⟩:=boxed h f l c;clear h;obtain⟨q0,q1,q2,q3,q4,q5,q6,q7,q8,q9,q10,q11,q12⟩:=D.cells o ho;clear q0 q1 q2 q3 q4 q5 q6 q7 q9 q10 q12;have hfr:=D.free;have hd:=D0 x e61
 cases k5:(d.kind==5)
 ·have HT:Hid (aV d x ⟨f,l,c⟩=(8,d)):=by show aV d x ⟨f,l,c⟩=_;simp[aV,k0,k1,e46,k5,hd]
  go_enter Tryz.func206,Tryz.ntmps206
  go_upto_region 1 with fail
  rw[HW.out];go_wp2_with (go_at_call 231;refine(dH x _ hx).mono ?_;rintro e w1 ⟨rfl,rfl⟩);go_ret;exact⟨am (by rw[HT.out]),H,by rw[HT.out];exact D,(aw.refl _ _ _).still K⟩
 ·cases hp:d.inProof
  ·have HT:Hid (aV d x ⟨f,l,c⟩=bY d):=by show aV d x ⟨f,l,c⟩=_;simp only[aV,k0,k1,e46,e61,k5,hp];simp
   rw[hp]at q11;go_enter Tryz.func206,Tryz.ntmps206
   go_upto_region 1 with fail
   rw[HW.out];go_wp2_with fail;refine(sR b t o pre post d H _ (by exact D) ho).mono ?_;rintro e w2 ⟨rfl,H2,D2,T2⟩;go_wp2;go_ret;exact⟨am (by rw[HT.out]),H2,by rw[HT.out];exact D2,T2.first K⟩
  ·have HT:Hid (aV d x ⟨f,l,c⟩=(8,d)):=by show aV d x ⟨f,l,c⟩=_;simp[aV,k0,k1,e46,hp,hd]
   rw[hp]at q11;go_enter Tryz.func206,Tryz.ntmps206
   go_upto_region 1 with fail
   rw[HW.out];go_wp2_with (go_at_call 231;refine(dH x _ hx).mono ?_;rintro e w1 ⟨rfl,rfl⟩);go_ret;exact⟨am (by rw[HT.out]),H,by rw[HT.out];exact D,(aw.refl _ _ _).still K⟩
set_option maxRecDepth 100000 in
theorem GM(b t o:Nat)(pre post:List Value)(d:Db)(H:Nat->Hd)(x f:ByteArray)(l c:Int)(w:World)(h:aN w b t pre post d H)(ho:pre.length=o)(hs:eS d 10000000)(hx:x.size<=1073741824)(hi:yF d 100000000) :
  fU b t o pre post d H x f l c w:=by
 cases k0:(d.kind==0)
 ·cases k1:(d.kind==6)
  ·cases e46:(x.toList == [36,46])
   ·cases e61:(x.toList == [36,61])
    ·cases hd:dw x
     ·cases hp:d.inProof
      ·exact yT b t o pre post d H x f l c w h ho hs hx k0 k1 e46 e61 hd hp
      ·exact vn b t o pre post d H x f l c w h ho hs hx k0 k1 e46 e61 hd hp
     ·unfold fU
      obtain⟨W,HW,K,D,p0,p1,p2⟩:=boxed h f l c;clear h hi;obtain⟨q0,q1,q2,q3,q4,q5,q6,q7,q8,q9,q10,q11,q12⟩:=D.cells o ho;clear q0 q1 q2 q3 q4 q5 q6 q7 q9 q10 q12;have HT:Hid (aV d x ⟨f,l,c⟩=(8,d)):=by show aV d x ⟨f,l,c⟩=_;simp[aV,k0,k1,e46,e61,hd]
      go_enter Tryz.func206,Tryz.ntmps206
      go_upto_region 1 with fail
      rw[HW.out];go_wp2_with (go_at_call 231;refine(dH x _ hx).mono ?_;rintro e w1 ⟨rfl,rfl⟩);go_ret;exact⟨am (by rw[HT.out]),H,by rw[HT.out];exact D,(aw.refl _ _ _).still K⟩
    ·exact Bf b t o pre post d H x f l c w h ho hx k0 k1 e46 e61
   ·unfold fU
    obtain⟨W,HW,K,D,p0,p1,p2⟩:=boxed h f l c;clear h hi;obtain⟨q0,q1,q2,q3,q4,q5,q6,q7,q8,q9,q10,q11,q12⟩:=D.cells o ho;clear q0 q1 q2 q3 q4 q5 q6 q7 q9 q10 q11 q12;have HT:Hid (aV d x ⟨f,l,c⟩=kR d ⟨f,l,c⟩):=by show aV d x ⟨f,l,c⟩=_;simp only[aV,k0,k1,e46];simp
    go_enter Tryz.func206,Tryz.ntmps206
    go_upto_region 1 with fail
    rw[HW.out];go_wp2_with fail;refine(Jm b t o pre post d H f l c _ (by exact D) ho hs).mono ?_;rintro e w2 ⟨rfl,H2,D2,T2⟩;go_wp2;go_ret;exact⟨am (by rw[HT.out]),H2,by rw[HT.out];exact D2,T2.first K⟩
  ·unfold fU
   obtain⟨W,HW,K,D,p0,p1,p2⟩:=boxed h f l c;clear h hi;obtain⟨q0,q1,q2,q3,q4,q5,q6,q7,q8,q9,q10,q11,q12⟩:=D.cells o ho;clear q0 q1 q2 q3 q4 q5 q6 q7 q9 q10 q11 q12;have HT:Hid (aV d x ⟨f,l,c⟩=aJ d x):=by show aV d x ⟨f,l,c⟩=_;simp only[aV,k0,k1];simp
   go_enter Tryz.func206,Tryz.ntmps206
   go_upto_region 1 with fail
   rw[HW.out];go_wp2_with fail;refine(sg b t o pre post d H x _ (by exact D) ho).mono ?_;rintro e w2 ⟨rfl,H2,D2,T2⟩;go_wp2;go_ret;exact⟨am (by rw[HT.out]),H2,by rw[HT.out];exact D2,T2.first K⟩
 ·unfold fU
  obtain⟨W,HW,K,D,p0,p1,p2⟩:=boxed h f l c;clear h;obtain⟨q0,q1,q2,q3,q4,q5,q6,q7,q8,q9,q10,q11,q12⟩:=D.cells o ho;clear q0 q1 q2 q3 q4 q5 q6 q7 q9 q10 q11 q12;have HT:Hid (aV d x ⟨f,l,c⟩=ay d x):=by show aV d x ⟨f,l,c⟩=_;simp only[aV,k0];simp
  go_enter Tryz.func206,Tryz.ntmps206
  go_upto_region 1 with fail
  rw[HW.out];go_wp2_with fail;refine(vi b t o pre post d H x _ (by exact D) ho hs hx hi).mono ?_;rintro e w2 ⟨rfl,H2,D2,T2⟩;go_wp2;go_ret;exact⟨am (by rw[HT.out]),H2,by rw[HT.out];exact D2,T2.first K⟩
end Go.Proofs.YtpddjjabfbfifaaGreat

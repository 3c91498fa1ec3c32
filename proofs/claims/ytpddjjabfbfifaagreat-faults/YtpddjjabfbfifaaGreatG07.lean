import Derived.Test.YtpddjjabfbfifaaGreatG06
namespace Go.Proofs.YtpddjjabfbfifaaGreat
open Go.RowKit
set_option maxHeartbeats 40000000
theorem eR.mono{d:Db}{N M:Nat}(h:eR d N)(hl:N<=M):eR d M :=
 ⟨Nat.le_trans h.labels hl,Nat.le_trans h.constants hl,Nat.le_trans h.variables hl,Nat.le_trans h.active hl,Nat.le_trans h.typed hl,Nat.le_trans h.blocks hl,Nat.le_trans h.sts hl,Nat.le_trans h.rbl hl,Nat.le_trans h.symbols hl,Nat.le_trans h.proof hl⟩
theorem aN.kind{w:World}{b t:Nat}{pre post:List Value}{d:Db}{H:Nat->Hd}(h:aN w b t pre post d H)(o:Nat)(ho:pre.length=o)(k:Int) :
  Hid (aN (w.setCell ⟨b,o+8,none⟩ (.int .i64 k)) b t pre post { d with kind:=k } H/\aw b w H (w.setCell ⟨b,o+8,none⟩ (.int .i64 k)) H) :=
 h.set (d':={ d with kind:=k }) o 8 ho (EQ d H k) _ (by omega) rfl
theorem aN.lab{w:World}{b t:Nat}{pre post:List Value}{d:Db}{H:Nat->Hd}(h:aN w b t pre post d H)(o:Nat)(ho:pre.length=o)(k:ByteArray) :
  Hid (aN (w.setCell ⟨b,o+9,none⟩ (.string k)) b t pre post { d with label:=k } H/\aw b w H (w.setCell ⟨b,o+9,none⟩ (.string k)) H) :=
 h.set (d':={ d with label:=k }) o 9 ho (Bs d H k) _ (by omega) rfl
theorem aN.inProof{w:World}{b t:Nat}{pre post:List Value}{d:Db}{H:Nat->Hd}(h:aN w b t pre post d H)(o:Nat)(ho:pre.length=o)(k:Bool) :
  Hid (aN (w.setCell ⟨b,o+11,none⟩ (.bool k)) b t pre post { d with inProof:=k } H/\aw b w H (w.setCell ⟨b,o+11,none⟩ (.bool k)) H) :=
 h.set (d':={ d with inProof:=k }) o 11 ho (xC d H k) _ (by omega) rfl
theorem aN.forget{w:World}{b t:Nat}{pre post:List Value}{d:Db}{H:Nat->Hd}(h:aN w b t pre post d H)(o:Nat)(ho:pre.length=o) :
  aN (w.setCell ⟨b,o+10,none⟩ (.slice none 0 0)) b t pre post { d with symbols:=[] } (fM H 8 ⟨none,0⟩)/\aw b w H (w.setCell ⟨b,o+10,none⟩ (.slice none 0 0)) (fM H 8 ⟨none,0⟩) :=
 h.put (d':={ d with symbols:=[] }) o 10 ho 8 (by omega) ⟨none,0⟩ ⟨by simp[aP,aD,dO],Or.inl ⟨by simp[aP,aD],by simp[aP,aD]⟩⟩ (World.grownBy.refl _ _) (Or.inl rfl) (qo d H []) _ (by omega) (by simp[bU,fM])
theorem aN.noProof{w:World}{b t:Nat}{pre post:List Value}{d:Db}{H:Nat->Hd}(h:aN w b t pre post d H)(o:Nat)(ho:pre.length=o) :
  aN (w.setCell ⟨b,o+12,none⟩ (.slice none 0 0)) b t pre post { d with proof:=[] } (fM H 9 ⟨none,0⟩)/\aw b w H (w.setCell ⟨b,o+12,none⟩ (.slice none 0 0)) (fM H 9 ⟨none,0⟩) :=
 h.put (d':={ d with proof:=[] }) o 12 ho 9 (by omega) ⟨none,0⟩ ⟨by simp[aP,fE,lU],Or.inl ⟨by simp[aP,fE],by simp[aP,fE]⟩⟩ (World.grownBy.refl _ _) (Or.inl rfl) (uv d H []) _ (by omega) (by simp[bU,fM])
def aJ(d:Db)(x:ByteArray):Int×Db :=
 if(x.toList == [36,102])=true then(0,{ d with kind:=2 })
 else if(x.toList == [36,101])=true then(0,{ d with kind:=3 })
 else if(x.toList == [36,97])=true then(0,{ d with kind:=4 })
 else if(x.toList == [36,112])=true then(0,{ d with kind:=5 })
 else(14,d)
def bY(d:Db):Int×Db:=if d.symbols.length=0 then(15,d) else(0,{ d with inProof:=true })
def bH(d:Db)(x:ByteArray):Int×Db :=
 if dw x=true then(8,d) else if fB x=false then(12,d) else if dm d x=true then(13,d)
 else(0,{ d with labels:=d.labels++[x],label:=x,kind:=6 })
def kN(d:Db)(p:Pl):Int×Db :=
 if(d.symbols.length:Int)<lj d then(15,d)
 else if(d.kind==5)=true/\d.inProof=false then(23,d)
 else(0,{ bt d p with kind:=0,label:=⟨#[]⟩,symbols:=[],inProof:=false,proof:=[] })
def cw(d:Db)(q:Nat×Nat):Db :=
 match d.rbl.getLast? with
 | none=>cU d d.blocks.dropLast q
 | some x=>{ cU d d.blocks.dropLast q with rbl:=d.rbl.dropLast,sts:=jo d.sts x }
def ay(d:Db)(x:ByteArray):Int×Db :=
 if(x.toList == [36,123])=true then(0,{ d with blocks:=d.blocks++[(d.active.length,d.typed.length)],rbl:=d.rbl++[d.sts.length] })
 else if(x.toList == [36,125])=true then(match d.blocks.getLast? with | none=>(9,d) | some p=>(0,cw d p))
 else if(x.toList == [36,99])=true then(if 0<d.blocks.length then(10,d) else(0,{ d with kind:=7 }))
 else if(x.toList == [36,118])=true then(0,{ d with kind:=8 })
 else if(x.toList == [36,100])=true then(0,{ d with kind:=1 })
 else if(x.toList == [36,102])=true∨(x.toList == [36,101])=true∨(x.toList == [36,97])=true∨(x.toList == [36,112])=true then(11,d)
 else bH d x
def aV(d:Db)(x:ByteArray)(p:Pl):Int×Db :=
 if(d.kind==0)=true then ay d x
 else if(d.kind==6)=true then aJ d x
 else if(x.toList == [36,46])=true then kN d p
 else if(x.toList == [36,61])=true/\(d.kind==5)=true/\d.inProof=false then bY d
 else if dw x=true then(8,d)
 else if d.inProof=true then(0,{ d with proof:=d.proof++[(x,p)] })
 else if(aU d x==0)=true then(0,{ d with symbols:=d.symbols++[x] })
 else(aU d x,d)
set_option maxRecDepth 100000 in
theorem sw(b t o:Nat)(pre post:List Value)(d:Db)(H:Nat->Hd)(x:ByteArray)(w:World)(h:aN w b t pre post d H)(ho:pre.length=o) :
  Calls Tryz.prog 233 #[.pointer (some ⟨b,o,none⟩),.string x] w fun e w'=>e=.returned (.int .i64 (aJ d x).1)/\∃H',aN w' b t pre post (aJ d x).2 H'/\aw b w H w' H':=by
 obtain⟨q0,q1,q2,q3,q4,q5,q6,q7,q8,q9,q10,q11,q12⟩:=h.cells o ho;have hfr:=h.free
 cases e102:(x.toList == [36,102])
 ·cases e101:(x.toList == [36,101])
  ·cases e97:(x.toList == [36,97])
   ·cases e112:(x.toList == [36,112])
    ·have HT:Hid (aJ d x=(14,d)):=by show aJ d x=_;simp only[aJ,e102,e101,e97,e112];simp
     go_enter Tryz.func233,Tryz.ntmps233;go_wp2;go_ret;exact⟨am (by rw[HT.out]),H,by rw[HT.out];exact h,aw.refl _ _ _⟩
    ·have HT:Hid (aJ d x=(0,{ d with kind:=5 })):=by show aJ d x=_;simp only[aJ,e102,e101,e97,e112];simp
     have HK:=h.kind o ho 5;go_enter Tryz.func233,Tryz.ntmps233;go_wp2;go_ret;exact⟨am (by rw[HT.out]),H,by rw[HT.out];exact HK.out.1,HK.out.2⟩
   ·have HT:Hid (aJ d x=(0,{ d with kind:=4 })):=by show aJ d x=_;simp only[aJ,e102,e101,e97];simp
    have HK:=h.kind o ho 4;go_enter Tryz.func233,Tryz.ntmps233;go_wp2;go_ret;exact⟨am (by rw[HT.out]),H,by rw[HT.out];exact HK.out.1,HK.out.2⟩
  ·have HT:Hid (aJ d x=(0,{ d with kind:=3 })):=by show aJ d x=_;simp only[aJ,e102,e101];simp
   have HK:=h.kind o ho 3;go_enter Tryz.func233,Tryz.ntmps233;go_wp2;go_ret;exact⟨am (by rw[HT.out]),H,by rw[HT.out];exact HK.out.1,HK.out.2⟩
 ·have HT:Hid (aJ d x=(0,{ d with kind:=2 })):=by show aJ d x=_;simp only[aJ,e102];simp
  have HK:=h.kind o ho 2;go_enter Tryz.func233,Tryz.ntmps233;go_wp2;go_ret;exact⟨am (by rw[HT.out]),H,by rw[HT.out];exact HK.out.1,HK.out.2⟩
set_option maxRecDepth 100000 in
theorem s9(b t o:Nat)(pre post:List Value)(d:Db)(H:Nat->Hd)(w:World)(h:aN w b t pre post d H)(ho:pre.length=o) :
  Calls Tryz.prog 235 #[.pointer (some ⟨b,o,none⟩)] w fun e w'=>e=.returned (.int .i64 (bY d).1)/\∃H',aN w' b t pre post (bY d).2 H'/\aw b w H w' H':=by
 obtain⟨q0,q1,q2,q3,q4,q5,q6,q7,q8,q9,q10,q11,q12⟩:=h.cells o ho;have hfr:=h.free
 by_cases hz:d.symbols.length=0
 ·have HT:Hid (bY d=(15,d)):=by show bY d=_;simp only[bY,hz];simp
  have hz1:((d.symbols.length:Int)==0)=true:=by simp[hz]
  clear hz;go_enter Tryz.func235,Tryz.ntmps235;go_wp2;go_ret;exact⟨am (by rw[HT.out]),H,by rw[HT.out];exact h,aw.refl _ _ _⟩
 ·have HT:Hid (bY d=(0,{ d with inProof:=true })):=by show bY d=_;simp only[bY,hz];simp
  have hz1:((d.symbols.length:Int)==0)=false:=beq_eq_false_iff_ne.2 (by omega);have HK:=h.inProof o ho true;clear hz;go_enter Tryz.func235,Tryz.ntmps235;go_wp2;go_ret;exact⟨am (by rw[HT.out]),H,by rw[HT.out];exact HK.out.1,HK.out.2⟩
set_option maxRecDepth 100000 in
theorem vq(b t o:Nat)(pre post:List Value)(d:Db)(H:Nat->Hd)(x:ByteArray)(w:World)(h:aN w b t pre post d H)(ho:pre.length=o)(hs:eR d 100000000)(hx:x.size<=1073741824) :
  Calls Tryz.prog 250 #[.pointer (some ⟨b,o,none⟩),.string x] w fun e w'=>e=.returned (.int .i64 (bH d x).1)/\∃H',aN w' b t pre post (bH d x).2 H'/\aw b w H w' H':=by
 obtain⟨q0,q1,q2,q3,q4,q5,q6,q7,q8,q9,q10,q11,q12⟩:=h.cells o ho;have hfr:=h.free
 cases h1:dw x
 ·cases h2:fB x
  ·have HT:Hid (bH d x=(12,d)):=by show bH d x=_;simp[bH,h1,h2]
   go_enter Tryz.func250,Tryz.ntmps250;go_wp2_with (first | (go_at_call 231;refine(dD x _ hx).mono ?_;rintro e w1 ⟨rfl,rfl⟩) | (go_at_call 263;refine(lG x _ hx).mono ?_;rintro e w1 ⟨rfl,rfl⟩) | (go_at_call 254;refine(ko b t o pre post d H x _ (by exact h) ho (hs.mono (by omega))).mono ?_;rintro e w1 ⟨rfl,rfl⟩));go_ret;exact⟨am (by rw[HT.out]),H,by rw[HT.out];exact h,aw.refl _ _ _⟩
  ·cases h3:dm d x
   ·have HT:Hid (bH d x=(0,{ d with labels:=d.labels++[x],label:=x,kind:=6 })):=by show bH d x=_;simp[bH,h1,h2,h3]
    have hll:=hs.labels;go_enter Tryz.func250,Tryz.ntmps250;go_wp2_with (first | (go_at_call 231;refine(dD x _ hx).mono ?_;rintro e w1 ⟨rfl,rfl⟩) | (go_at_call 263;refine(lG x _ hx).mono ?_;rintro e w1 ⟨rfl,rfl⟩) | (go_at_call 254;refine(ko b t o pre post d H x _ (by exact h) ho (hs.mono (by omega))).mono ?_;rintro e w1 ⟨rfl,rfl⟩));refine(wH b t o pre post d H x _ (by exact h) ho (by omega)).mono ?_;rintro e w2 ⟨rfl,H2,D2,T2⟩;have HL:=D2.lab o ho x;have HK:=HL.out.1.kind o ho 6;clear q0 q1 q2 q3 q4 q5 q6 q7 q8 q9 q10 q11 q12 hfr;obtain⟨q0,q1,q2,q3,q4,q5,q6,q7,q8,q9,q10,q11,q12⟩:=D2.cells o ho;have hfr:=D2.free;go_wp2;go_ret;exact⟨am (by rw[HT.out]),H2,by rw[HT.out];exact HK.out.1,T2.trans (HL.out.2.trans HK.out.2)⟩
   ·have HT:Hid (bH d x=(13,d)):=by show bH d x=_;simp[bH,h1,h2,h3]
    go_enter Tryz.func250,Tryz.ntmps250;go_wp2_with (first | (go_at_call 231;refine(dD x _ hx).mono ?_;rintro e w1 ⟨rfl,rfl⟩) | (go_at_call 263;refine(lG x _ hx).mono ?_;rintro e w1 ⟨rfl,rfl⟩) | (go_at_call 254;refine(ko b t o pre post d H x _ (by exact h) ho (hs.mono (by omega))).mono ?_;rintro e w1 ⟨rfl,rfl⟩));go_ret;exact⟨am (by rw[HT.out]),H,by rw[HT.out];exact h,aw.refl _ _ _⟩
 ·have HT:Hid (bH d x=(8,d)):=by show bH d x=_;simp[bH,h1]
  go_enter Tryz.func250,Tryz.ntmps250;go_wp2_with (first | (go_at_call 231;refine(dD x _ hx).mono ?_;rintro e w1 ⟨rfl,rfl⟩) | (go_at_call 263;refine(lG x _ hx).mono ?_;rintro e w1 ⟨rfl,rfl⟩) | (go_at_call 254;refine(ko b t o pre post d H x _ (by exact h) ho (hs.mono (by omega))).mono ?_;rintro e w1 ⟨rfl,rfl⟩));go_ret;exact⟨am (by rw[HT.out]),H,by rw[HT.out];exact h,aw.refl _ _ _⟩
theorem DP(d:Db):1<=lj d:=by unfold lj;split <;> omega
set_option maxRecDepth 100000 in
theorem LT(b t o:Nat)(pre post:List Value)(d:Db)(H:Nat->Hd)(f:ByteArray)(l c:Int)(w:World)(h:aN w b t pre post d H)(ho:pre.length=o)(hs:eR d 10000000) :
  Calls Tryz.prog 234 #[.pointer (some ⟨b,o,none⟩),.agg #[.string f,.int .i64 l,.int .i64 c]] w fun e w'=>e=.returned (.int .i64 (kN d ⟨f,l,c⟩).1)/\∃H',aN w' b t pre post (kN d ⟨f,l,c⟩).2 H'/\aw b w H w' H':=by
 obtain⟨W,hW⟩:∃W,W=w.alloc (.cells #[.string f,.int .i64 l,.int .i64 c] 36):=⟨_,rfl⟩
 have K:ab [] w W:=by rw[hW];exact(ab.refl [] _).alloc _
 have D:=h.still K;have HW:=(show Hid _ from hW.symm);have B:W.heap[w.heap.size]?=some (.cells #[.string f,.int .i64 l,.int .i64 c] 36 (0,0)):=by rw[hW];exact heap_alloc_new _ _
 have p0:W.cell? ⟨w.heap.size,0,none⟩=some (.string f):=by rw[aa B];rfl
 have p1:W.cell? ⟨w.heap.size,1,none⟩=some (.int .i64 l):=by rw[aa B];rfl
 have p2:W.cell? ⟨w.heap.size,2,none⟩=some (.int .i64 c):=by rw[aa B];rfl
 clear hW B h;obtain⟨q0,q1,q2,q3,q4,q5,q6,q7,q8,q9,q10,q11,q12⟩:=D.cells o ho;clear q0 q1 q2 q3 q4 q5 q6 q7 q9 q12;have hfr:=D.free
 by_cases hlt:(d.symbols.length:Int)<lj d
 ·have HT:Hid (kN d ⟨f,l,c⟩=(15,d)):=by show kN d ⟨f,l,c⟩=_;simp only[kN,if_pos hlt]
  go_enter Tryz.func234,Tryz.ntmps234
  go_upto_region 1 with fail
  rw[HW.out]
  go_quiet ((go_at_call 251;exact Calls.quiet_of_same (qU b t o pre post d H _ (D.still ((ab.refl [] W).drewN _)) ho)))
  go_wp2;go_ret;exact⟨am (by rw[HT.out]),H,by rw[HT.out];exact D.still ((ab.refl [] _).drewN _),(aw.refl _ _ _).still (K.drewN _)⟩
 ·have hsp:Hid (0<d.symbols.length):=by have:=DP d;show 0<_;omega
  by_cases hr:(d.kind==5)=true/\d.inProof=false
  ·have HT:Hid (kN d ⟨f,l,c⟩=(23,d)):=by show kN d ⟨f,l,c⟩=_;simp only[kN,if_neg hlt,if_pos hr]
   obtain⟨k5,hp⟩:=hr;rw[hp]at q11;go_enter Tryz.func234,Tryz.ntmps234
   go_upto_region 1 with fail
   rw[HW.out]
   go_quiet ((go_at_call 251;exact Calls.quiet_of_same (qU b t o pre post d H _ (D.still ((ab.refl [] W).drewN _)) ho)))
   go_wp2;go_ret;exact⟨am (by rw[HT.out]),H,by rw[HT.out];exact D.still ((ab.refl [] _).drewN _),(aw.refl _ _ _).still (K.drewN _)⟩
  ·have HT:Hid (kN d ⟨f,l,c⟩=(0,{ bt d ⟨f,l,c⟩ with kind:=0,label:=⟨#[]⟩,symbols:=[],inProof:=false,proof:=[] })):=by show kN d ⟨f,l,c⟩=_;simp only[kN,if_neg hlt,if_neg hr]
   have hp5:(d.kind==5)=true->d.inProof=true:=by
    intro k5
    cases hq:d.inProof with
    | true=>rfl
    | false=>exact absurd ⟨k5,hq⟩ hr
   cases k5:(d.kind==5)
   all_goals
    try rw[hp5 k5]at q11
    clear hp5;clear hr;go_enter Tryz.func234,Tryz.ntmps234
    go_upto_region 1 with fail
    rw[HW.out]
    go_quiet ((go_at_call 251;exact Calls.quiet_of_same (qU b t o pre post d H _ (D.still ((ab.refl [] W).drewN _)) ho)))
    go_wp2_with fail;refine(yp b t o pre post d H f l c _ (by exact D.still ((ab.refl [] _).drewN _)) ho hsp.out hs).mono ?_;rintro e w2 ⟨rfl,H2,D2,T2⟩;have K1:=D2.kind o ho 0;have K2:=K1.out.1.lab o ho ⟨#[]⟩;have K3:=(show Hid _ from K2.out.1.forget o ho);have K4:=K3.out.1.inProof o ho false;have K5:=(show Hid _ from K4.out.1.noProof o ho);clear q8 q10 q11 hfr p0 p1 p2;obtain⟨q0,q1,q2,q3,q4,q5,q6,q7,q8,q9,q10,q11,q12⟩:=D2.cells o ho;clear q0 q1 q2 q3 q4 q5 q6 q7;have hfr:=D2.free;go_wp2;go_ret;exact⟨am (by rw[HT.out]),_,by rw[HT.out];exact K5.out.1,(T2.first (K.drewN _)).trans (K1.out.2.trans (K2.out.2.trans (K3.out.2.trans (K4.out.2.trans K5.out.2))))⟩
theorem pj{α:Type}{l:List α}{p:α}(h:l.getLast?=some p):l=l.dropLast++[p]:=by
 obtain⟨ys,rfl⟩:=List.getLast?_eq_some_iff.1 h;simp
structure xT(d:Db)(N:Nat):Prop where
 names:∀p,p∈d.blocks->p.1<=N/\p.2<=N
 same:d.rbl.length=d.blocks.length
 recs:∀x,x∈d.rbl->x<=d.sts.length
set_option maxRecDepth 100000 in
theorem vp(b t o:Nat)(pre post:List Value)(d:Db)(H:Nat->Hd)(x:ByteArray)(w:World)(h:aN w b t pre post d H)(ho:pre.length=o)(hs1:eR d 10000000)(hx:x.size<=1073741824)(hi:xT d 100000000) :
  Calls Tryz.prog 232 #[.pointer (some ⟨b,o,none⟩),.string x] w fun e w'=>e=.returned (.int .i64 (ay d x).1)/\∃H',aN w' b t pre post (ay d x).2 H'/\aw b w H w' H':=by
 have hs:=hs1.mono (M:=100000000) (by omega);obtain⟨q0,q1,q2,q3,q4,q5,q6,q7,q8,q9,q10,q11,q12⟩:=h.cells o ho;have hfr:=h.free
 cases e123:(x.toList == [36,123])
 ·cases e125:(x.toList == [36,125])
  ·cases e99:(x.toList == [36,99])
   ·cases e118:(x.toList == [36,118])
    ·cases e100:(x.toList == [36,100])
     ·cases e102:(x.toList == [36,102])
      ·cases e101:(x.toList == [36,101])
       ·cases e97:(x.toList == [36,97])
        ·cases e112:(x.toList == [36,112])
         ·have HT:Hid (ay d x=bH d x):=by show ay d x=_;simp only[ay,e123,e125,e99,e118,e100,e102,e101,e97,e112];simp
          go_enter Tryz.func232,Tryz.ntmps232;go_wp2_with fail;refine(vq b t o pre post d H x _ (by exact h) ho hs hx).mono ?_;rintro e w2 ⟨rfl,H2,D2,T2⟩;go_wp2;go_ret;exact⟨am (by rw[HT.out]),H2,by rw[HT.out];exact D2,T2⟩
         ·have HT:Hid (ay d x=(11,d)):=by show ay d x=_;simp only[ay,e123,e125,e99,e118,e100,e102,e101,e97,e112];simp
          go_enter Tryz.func232,Tryz.ntmps232;go_wp2;go_ret;exact⟨am (by rw[HT.out]),H,by rw[HT.out];exact h,aw.refl _ _ _⟩
        ·have HT:Hid (ay d x=(11,d)):=by show ay d x=_;simp only[ay,e123,e125,e99,e118,e100,e102,e101,e97];simp
         go_enter Tryz.func232,Tryz.ntmps232;go_wp2;go_ret;exact⟨am (by rw[HT.out]),H,by rw[HT.out];exact h,aw.refl _ _ _⟩
       ·have HT:Hid (ay d x=(11,d)):=by show ay d x=_;simp only[ay,e123,e125,e99,e118,e100,e102,e101];simp
        go_enter Tryz.func232,Tryz.ntmps232;go_wp2;go_ret;exact⟨am (by rw[HT.out]),H,by rw[HT.out];exact h,aw.refl _ _ _⟩
      ·have HT:Hid (ay d x=(11,d)):=by show ay d x=_;simp only[ay,e123,e125,e99,e118,e100,e102];simp
       go_enter Tryz.func232,Tryz.ntmps232;go_wp2;go_ret;exact⟨am (by rw[HT.out]),H,by rw[HT.out];exact h,aw.refl _ _ _⟩
     ·have HT:Hid (ay d x=(0,{ d with kind:=1 })):=by show ay d x=_;simp only[ay,e123,e125,e99,e118,e100];simp
      have HK:=h.kind o ho 1;go_enter Tryz.func232,Tryz.ntmps232;go_wp2;go_ret;exact⟨am (by rw[HT.out]),H,by rw[HT.out];exact HK.out.1,HK.out.2⟩
    ·have HT:Hid (ay d x=(0,{ d with kind:=8 })):=by show ay d x=_;simp only[ay,e123,e125,e99,e118];simp
     have HK:=h.kind o ho 8;go_enter Tryz.func232,Tryz.ntmps232;go_wp2;go_ret;exact⟨am (by rw[HT.out]),H,by rw[HT.out];exact HK.out.1,HK.out.2⟩
   ·by_cases hb0:0<d.blocks.length
    ·have HT:Hid (ay d x=(10,d)):=by show ay d x=_;simp only[ay,e123,e125,e99,hb0];simp
     have hd0:decide (0<d.blocks.length)=true:=by simpa using hb0
     clear hb0;go_enter Tryz.func232,Tryz.ntmps232;go_wp2_with (go_at_call 207;refine(kn b t o pre post d H _ (by exact h) ho).mono ?_;rintro e w1 ⟨rfl,rfl⟩);go_ret;exact⟨am (by rw[HT.out]),H,by rw[HT.out];exact h,aw.refl _ _ _⟩
    ·have HT:Hid (ay d x=(0,{ d with kind:=7 })):=by show ay d x=_;simp only[ay,e123,e125,e99,hb0];simp
     have hd0:decide (0<d.blocks.length)=false:=by simpa using hb0
     have HK:=h.kind o ho 7;clear hb0;go_enter Tryz.func232,Tryz.ntmps232;go_wp2_with (go_at_call 207;refine(kn b t o pre post d H _ (by exact h) ho).mono ?_;rintro e w1 ⟨rfl,rfl⟩);go_ret;exact⟨am (by rw[HT.out]),H,by rw[HT.out];exact HK.out.1,HK.out.2⟩
  ·rcases hbb:d.blocks.getLast? with _ | p
   ·have hb0:d.blocks=[]:=by simpa using hbb
    have HT:Hid (ay d x=(9,d)):=by show ay d x=_;simp only[ay,e123,e125,hbb];simp
    have hd0:decide (0<d.blocks.length)=false:=by rw[hb0];rfl
    clear hbb hb0;go_enter Tryz.func232,Tryz.ntmps232;go_wp2_with (go_at_call 207;refine(kn b t o pre post d H _ (by exact h) ho).mono ?_;rintro e w1 ⟨rfl,rfl⟩);go_ret;exact⟨am (by rw[HT.out]),H,by rw[HT.out];exact h,aw.refl _ _ _⟩
   ·have hb0:d.blocks=d.blocks.dropLast++[p]:=pj hbb
    have HT:Hid (ay d x=(0,cw d p)):=by show ay d x=_;simp only[ay,e123,e125,hbb];simp
    have hd0:decide (0<d.blocks.length)=true:=by rw[hb0];simp
    have HB:Hid (d.blocks=d.blocks.dropLast++[p]):=hb0;have hp:=hi.names p (by rw[hb0];simp);have hne:d.rbl≠[]:=by intro e;have:=hi.same;rw[e,hb0]at this;simp at this
    obtain⟨y,hy⟩:∃y,d.rbl.getLast?=some y:=⟨_,List.getLast?_eq_some_getLast hne⟩
    have HR:Hid (d.rbl=d.rbl.dropLast++[y]):=pj hy;have hyl:=hi.recs y (by rw[HR.out];simp);have HE:Hid (cw d p={ cU d d.blocks.dropLast p with rbl:=d.rbl.dropLast,sts:=jo d.sts y }):=by show cw d p=_;unfold cw;rw[hy]
    have hs2:Hid (eR (cU d d.blocks.dropLast p) 100000000):=⟨hs.labels,hs.constants,hs.variables,by have:=hs.active;simp only[cU,List.length_take];omega,by have:=hs.typed;simp only[cU,List.length_take];omega,by have:=hs.blocks;simp only[cU,List.length_dropLast];omega,hs.sts,hs.rbl,hs.symbols,hs.proof⟩;clear hbb hb0 hne hy;go_enter Tryz.func232,Tryz.ntmps232;go_wp2_with (go_at_call 207;refine(kn b t o pre post d H _ (by exact h) ho).mono ?_;rintro e w1 ⟨rfl,rfl⟩);refine(wU b t o pre post d H d.blocks.dropLast p _ (by exact h) ho HB.out (hs.mono (by omega)) ⟨by omega,by omega⟩).mono ?_;rintro e w2 ⟨rfl,D2,T2⟩;go_wp2_with fail;refine(Bp b t o pre post (cU d d.blocks.dropLast p) H d.rbl.dropLast y _ (by exact D2) ho HR.out hs2.out hyl).mono ?_;rintro e w3 ⟨rfl,D3,T3⟩;go_wp2;go_ret;exact⟨am (by rw[HT.out]),H,by rw[HT.out,HE.out];exact D3,T2.trans T3⟩
 ·have HT:Hid (ay d x=(0,{ d with blocks:=d.blocks++[(d.active.length,d.typed.length)],rbl:=d.rbl++[d.sts.length] })):=by show ay d x=_;simp only[ay,e123];simp
  have hbl:=hs.blocks;have hs2:Hid (eR { d with blocks:=d.blocks++[(d.active.length,d.typed.length)] } 100000000):=⟨hs.labels,hs.constants,hs.variables,hs.active,hs.typed,by have:=hs1.blocks;simp;omega,hs.sts,hs.rbl,hs.symbols,hs.proof⟩;go_enter Tryz.func232,Tryz.ntmps232;go_wp2_with fail;refine(sZ b t o pre post d H _ (by exact h) ho (by omega)).mono ?_;rintro e w2 ⟨rfl,H2,D2,T2⟩;go_wp2_with fail;refine(xB b t o pre post { d with blocks:=d.blocks++[(d.active.length,d.typed.length)] } H2 _ (by exact D2) ho hs2.out).mono ?_;rintro e w3 ⟨rfl,H3,D3,T3⟩;go_wp2;go_ret;exact⟨am (by rw[HT.out]),H3,by rw[HT.out];exact D3,T2.trans T3⟩
theorem Du(x:ByteArray)(h:(x.toList == [36,61])=true):dw x=true:=by
 have:x=⟨#[36,61]⟩:=Dq (by rw[ByteArray.toList_mk [36,61]];simpa using h);rw[this];decide +kernel
theorem EP(l:List (ByteArray×Pl))(p:ByteArray×Pl):(⟨(fE l).e,(fE l).size,(fE l).n+1,(fE l).xs++oR p⟩:dK)=fE (l++[p]):=by
 simp[fE,lU]
def fT(b t o:Nat)(pre post:List Value)(d:Db)(H:Nat->Hd)(x f:ByteArray)(l c:Int)(w:World):Prop :=
 Calls Tryz.prog 206 #[.pointer (some ⟨b,o,none⟩),.string x,.agg #[.string f,.int .i64 l,.int .i64 c]] w fun e w'=>e=.returned (.int .i64 (aV d x ⟨f,l,c⟩).1)/\∃H',aN w' b t pre post (aV d x ⟨f,l,c⟩).2 H'/\aw b w H w' H'
theorem boxed{w:World}{b t:Nat}{pre post:List Value}{d:Db}{H:Nat->Hd}(h:aN w b t pre post d H)(f:ByteArray)(l c:Int) :
  ∃W,Hid (w.alloc (.cells #[.string f,.int .i64 l,.int .i64 c] 36)=W)/\ab [] w W/\aN W b t pre post d H/\W.cell? ⟨w.heap.size,0,none⟩=some (.string f)/\W.cell? ⟨w.heap.size,1,none⟩=some (.int .i64 l)/\W.cell? ⟨w.heap.size,2,none⟩=some (.int .i64 c):=by
 have B:(w.alloc (.cells #[.string f,.int .i64 l,.int .i64 c] 36)).heap[w.heap.size]?=some (.cells #[.string f,.int .i64 l,.int .i64 c] 36 (0,0)):=heap_alloc_new _ _;refine⟨_,rfl,(ab.refl [] _).alloc _,h.still ((ab.refl [] _).alloc _),?_,?_,?_⟩ <;> rw[aa B] <;> rfl
set_option maxRecDepth 100000 in
theorem zL(b t o:Nat)(pre post:List Value)(d:Db)(H:Nat->Hd)(x f:ByteArray)(l c:Int)(w:World)(h:aN w b t pre post d H)(ho:pre.length=o)(hs1:eR d 10000000)(hx:x.size<=1073741824)(k0:(d.kind==0)=false)(k1:(d.kind==6)=false)(e46:(x.toList == [36,46])=false)(e61:(x.toList == [36,61])=false)(hd:dw x=false)(hp:d.inProof=false) :
  fT b t o pre post d H x f l c w:=by
 unfold fT;have hs:=hs1.mono (M:=1073741824) (by omega);obtain⟨W,HW,K,D,p0,p1,p2⟩:=boxed h f l c;clear h;obtain⟨q0,q1,q2,q3,q4,q5,q6,q7,q8,q9,q10,q11,q12⟩:=D.cells o ho;clear q0 q1 q2 q3 q4 q5 q6 q7 q9 q12;have hfr:=D.free;rw[hp]at q11
 cases hc:(aU d x==0)
 ·have HT:Hid (aV d x ⟨f,l,c⟩=(aU d x,d)):=by show aV d x ⟨f,l,c⟩=_;simp[aV,k0,k1,e46,e61,hd,hp,hc]
  go_enter Tryz.func206,Tryz.ntmps206
  go_upto_region 1 with fail
  rw[HW.out];go_wp2_with (first | (go_at_call 231;refine(dD x _ hx).mono ?_;rintro e w1 ⟨rfl,rfl⟩) | (go_at_call 236;refine(ne b t o pre post d H x _ (by exact D) ho hs).mono ?_;rintro e w1 ⟨rfl,rfl⟩));go_ret;exact⟨am (by rw[HT.out]),H,by rw[HT.out];exact D,(aw.refl _ _ _).still K⟩
 ·have HT:Hid (aV d x ⟨f,l,c⟩=(0,{ d with symbols:=d.symbols++[x] })):=by show aV d x ⟨f,l,c⟩=_;simp[aV,k0,k1,e46,e61,hd,hp,hc]
  have hc0:Hid (aU d x=0):=(show aU d x=0 by simpa using hc);have hsl:=hs1.symbols;obtain⟨i0,hi0,hz0,hz1,hz2⟩:=info_parts jI;have hA:=D.still ((ab.refl [] W).alloc (.cells #[.string x] 9));have hownA:=hA.own 8;have hbw:=D.lt;go_enter Tryz.func206,Tryz.ntmps206
  go_upto_region 1 with fail
  rw[HW.out];go_wp2_with (first | (go_at_call 231;refine(dD x _ hx).mono ?_;rintro e w1 ⟨rfl,rfl⟩) | (go_at_call 236;refine(ne b t o pre post d H x _ (by exact D) ho hs).mono ?_;rintro e w1 ⟨rfl,rfl⟩) | (at_builtin;refine aM _ rfl (.tmp 74) (.tmp 76) 61 rfl i0 (.string ⟨#[]⟩) 16 (H 8) (aD d.symbols) Tryz.underlying61 hi0 hz0 hz1 hz2 rfl Nat.one_pos rfl (by exact hownA) ⟨_,0,none⟩ 1 1 [.string x] rfl rfl ?c1 ?c2 Nat.one_pos ?c3 ?c4 ?_))
  case c1=>intro j u hj;match j,hj with | 0,hj=>simp at hj;subst hj;simp[Addr.add]
  case c2=>intro u hu;simp at hu;subst hu;rfl
  case c3=>simp only[aD];unfold maxLen;omega
  case c4=>simp only[aD];omega
  intro g cap' w1 hw1 hgr hfresh;obtain⟨k0,f0,HP⟩:=hA.app (d':={ d with symbols:=d.symbols++[x] }) o 10 ho 8 (by omega) g cap' ((aD d.symbols).n+1) _ hw1 (dV d.symbols x) hgr (by simpa using hfresh) (qo d H _) (by omega) _ rfl (by simp[bU,fM,aD]);clear hA hownA q8 q10 q11 hw1 hgr hfresh hfr;go_wp2;go_ret;exact⟨am (by rw[HT.out,hc0.out]),_,by rw[HT.out];exact HP.out.1,HP.out.2.first (K.alloc _)⟩
set_option maxRecDepth 100000 in
theorem vr(b t o:Nat)(pre post:List Value)(d:Db)(H:Nat->Hd)(x f:ByteArray)(l c:Int)(w:World)(h:aN w b t pre post d H)(ho:pre.length=o)(hs1:eR d 10000000)(hx:x.size<=1073741824)(k0:(d.kind==0)=false)(k1:(d.kind==6)=false)(e46:(x.toList == [36,46])=false)(e61:(x.toList == [36,61])=false)(hd:dw x=false)(hp:d.inProof=true) :
  fT b t o pre post d H x f l c w:=by
 unfold fT;obtain⟨W,HW,K,D,p0,p1,p2⟩:=boxed h f l c;clear h;obtain⟨q0,q1,q2,q3,q4,q5,q6,q7,q8,q9,q10,q11,q12⟩:=D.cells o ho;clear q0 q1 q2 q3 q4 q5 q6 q7 q9 q10;have hfr:=D.free;rw[hp]at q11;have HT:Hid (aV d x ⟨f,l,c⟩=(0,{ d with proof:=d.proof++[(x,⟨f,l,c⟩)] })):=by show aV d x ⟨f,l,c⟩=_;simp[aV,k0,k1,e46,e61,hd,hp]
 have hsl:=hs1.proof;obtain⟨i0,hi0,hz0,hz1,hz2⟩:=info_parts J7;have hbw:=D.lt;have hD:Hid (aN (W.alloc (.cells #[.string x,.string f,.int .i64 l,.int .i64 c] 229)).drew b t pre post d H):=D.still ((ab.refl [] W).alloc _).drew
 have s2:Hid (∀j u,(oR (x,⟨f,l,c⟩))[j]?=some u->(W.alloc (.cells #[.string x,.string f,.int .i64 l,.int .i64 c] 229)).drew.cell? ((⟨W.heap.size,0,none⟩:Addr).add j)=some u):=by
  intro j u hj;have hk:(W.alloc (.cells #[.string x,.string f,.int .i64 l,.int .i64 c] 229)).drew.heap[W.heap.size]?=some (.cells #[.string x,.string f,.int .i64 l,.int .i64 c] 229 (0,0)):=heap_alloc_new _ _;rw[bK,aa hk];simpa [oR] using hj
 have s3:Hid (∀u∈oR (x,⟨f,l,c⟩),u.oneCell'=true):=by
  intro u hu;simp only[oR,List.mem_cons,List.not_mem_nil,or_false]at hu
  rcases hu with rfl | rfl | rfl | rfl <;> rfl
 have s4:Hid ((fE d.proof).n+1<=maxLen):=by show _<=_;simp only[fE];unfold maxLen;omega
 have s5:Hid (((fE d.proof).n+1)*48<=140737488355328):=by show _<=_;simp only[fE];omega
 go_enter Tryz.func206,Tryz.ntmps206
 go_upto_region 1 with fail
 rw[HW.out];go_wp2_with (go_at_call 231;refine(dD x _ hx).mono ?_;rintro e w1 ⟨rfl,rfl⟩)
 go_region_law (refine ce rfl (.tmp 57) (.tmp 61) 156 rfl i0 (.agg #[.string ⟨#[]⟩,.string ⟨#[]⟩,.int .i64 0,.int .i64 0]) 48 (H 9) (fE d.proof) Tryz.underlying156 hi0 hz0 hz1 hz2 rfl (Nat.succ_pos 3) (by simp[Act.eval] <;> rfl) (hD.out.own 9) ⟨_,0,none⟩ 1 1 (oR (x,⟨f,l,c⟩)) (by simp[Act.eval] <;> rfl) rfl s2.out s3.out Nat.one_pos s4.out s5.out ?_;intro g cap' w1 hw1 hgr hfresh;obtain⟨k5,f5,HP⟩:=hD.out.app (d':={ d with proof:=d.proof++[(x,⟨f,l,c⟩)] }) o 12 ho 9 (by omega) g cap' ((fE d.proof).n+1) _ hw1 (EP d.proof (x,⟨f,l,c⟩)) hgr (by simpa using hfresh) (uv d H _) (by omega) _ rfl (by simp[bU,fM,fE]);clear hw1 hgr hfresh)
 all_goals go_wp2
 all_goals go_ret
 all_goals exact⟨am (by rw[HT.out]),_,by rw[HT.out];exact HP.out.1,HP.out.2.first (K.trans ((ab.refl [] _).alloc _).drew)⟩
set_option maxRecDepth 100000 in
theorem BN(b t o:Nat)(pre post:List Value)(d:Db)(H:Nat->Hd)(x f:ByteArray)(l c:Int)(w:World)(h:aN w b t pre post d H)(ho:pre.length=o)(hx:x.size<=1073741824)(k0:(d.kind==0)=false)(k1:(d.kind==6)=false)(e46:(x.toList == [36,46])=false)(e61:(x.toList == [36,61])=true) :
  fT b t o pre post d H x f l c w:=by
 unfold fT;obtain⟨W,HW,K,D,p0,p1,p2⟩:=boxed h f l c;clear h;obtain⟨q0,q1,q2,q3,q4,q5,q6,q7,q8,q9,q10,q11,q12⟩:=D.cells o ho;clear q0 q1 q2 q3 q4 q5 q6 q7 q9 q10 q12;have hfr:=D.free;have hd:=Du x e61
 cases k5:(d.kind==5)
 ·have HT:Hid (aV d x ⟨f,l,c⟩=(8,d)):=by show aV d x ⟨f,l,c⟩=_;simp[aV,k0,k1,e46,k5,hd]
  go_enter Tryz.func206,Tryz.ntmps206
  go_upto_region 1 with fail
  rw[HW.out];go_wp2_with (go_at_call 231;refine(dD x _ hx).mono ?_;rintro e w1 ⟨rfl,rfl⟩);go_ret;exact⟨am (by rw[HT.out]),H,by rw[HT.out];exact D,(aw.refl _ _ _).still K⟩
 ·cases hp:d.inProof
  ·have HT:Hid (aV d x ⟨f,l,c⟩=bY d):=by show aV d x ⟨f,l,c⟩=_;simp only[aV,k0,k1,e46,e61,k5,hp];simp
   rw[hp]at q11;go_enter Tryz.func206,Tryz.ntmps206
   go_upto_region 1 with fail
   rw[HW.out];go_wp2_with fail;refine(s9 b t o pre post d H _ (by exact D) ho).mono ?_;rintro e w2 ⟨rfl,H2,D2,T2⟩;go_wp2;go_ret;exact⟨am (by rw[HT.out]),H2,by rw[HT.out];exact D2,T2.first K⟩
  ·have HT:Hid (aV d x ⟨f,l,c⟩=(8,d)):=by show aV d x ⟨f,l,c⟩=_;simp[aV,k0,k1,e46,hp,hd]
   rw[hp]at q11;go_enter Tryz.func206,Tryz.ntmps206
   go_upto_region 1 with fail
   rw[HW.out];go_wp2_with (go_at_call 231;refine(dD x _ hx).mono ?_;rintro e w1 ⟨rfl,rfl⟩);go_ret;exact⟨am (by rw[HT.out]),H,by rw[HT.out];exact D,(aw.refl _ _ _).still K⟩
set_option maxRecDepth 100000 in
theorem Ig(b t o:Nat)(pre post:List Value)(d:Db)(H:Nat->Hd)(x f:ByteArray)(l c:Int)(w:World)(h:aN w b t pre post d H)(ho:pre.length=o)(hs:eR d 10000000)(hx:x.size<=1073741824)(hi:xT d 100000000) :
  fT b t o pre post d H x f l c w:=by
 cases k0:(d.kind==0)
 ·cases k1:(d.kind==6)
  ·cases e46:(x.toList == [36,46])
   ·cases e61:(x.toList == [36,61])
    ·cases hd:dw x
     ·cases hp:d.inProof
      ·exact zL b t o pre post d H x f l c w h ho hs hx k0 k1 e46 e61 hd hp
      ·exact vr b t o pre post d H x f l c w h ho hs hx k0 k1 e46 e61 hd hp
     ·unfold fT
      obtain⟨W,HW,K,D,p0,p1,p2⟩:=boxed h f l c;clear h hi;obtain⟨q0,q1,q2,q3,q4,q5,q6,q7,q8,q9,q10,q11,q12⟩:=D.cells o ho;clear q0 q1 q2 q3 q4 q5 q6 q7 q9 q10 q12;have HT:Hid (aV d x ⟨f,l,c⟩=(8,d)):=by show aV d x ⟨f,l,c⟩=_;simp[aV,k0,k1,e46,e61,hd]
      go_enter Tryz.func206,Tryz.ntmps206
      go_upto_region 1 with fail
      rw[HW.out];go_wp2_with (go_at_call 231;refine(dD x _ hx).mono ?_;rintro e w1 ⟨rfl,rfl⟩);go_ret;exact⟨am (by rw[HT.out]),H,by rw[HT.out];exact D,(aw.refl _ _ _).still K⟩
    ·exact BN b t o pre post d H x f l c w h ho hx k0 k1 e46 e61
   ·unfold fT
    obtain⟨W,HW,K,D,p0,p1,p2⟩:=boxed h f l c;clear h hi;obtain⟨q0,q1,q2,q3,q4,q5,q6,q7,q8,q9,q10,q11,q12⟩:=D.cells o ho;clear q0 q1 q2 q3 q4 q5 q6 q7 q9 q10 q11 q12;have HT:Hid (aV d x ⟨f,l,c⟩=kN d ⟨f,l,c⟩):=by show aV d x ⟨f,l,c⟩=_;simp only[aV,k0,k1,e46];simp
    go_enter Tryz.func206,Tryz.ntmps206
    go_upto_region 1 with fail
    rw[HW.out];go_wp2_with fail;refine(LT b t o pre post d H f l c _ (by exact D) ho hs).mono ?_;rintro e w2 ⟨rfl,H2,D2,T2⟩;go_wp2;go_ret;exact⟨am (by rw[HT.out]),H2,by rw[HT.out];exact D2,T2.first K⟩
  ·unfold fT
   obtain⟨W,HW,K,D,p0,p1,p2⟩:=boxed h f l c;clear h hi;obtain⟨q0,q1,q2,q3,q4,q5,q6,q7,q8,q9,q10,q11,q12⟩:=D.cells o ho;clear q0 q1 q2 q3 q4 q5 q6 q7 q9 q10 q11 q12;have HT:Hid (aV d x ⟨f,l,c⟩=aJ d x):=by show aV d x ⟨f,l,c⟩=_;simp only[aV,k0,k1];simp
   go_enter Tryz.func206,Tryz.ntmps206
   go_upto_region 1 with fail
   rw[HW.out];go_wp2_with fail;refine(sw b t o pre post d H x _ (by exact D) ho).mono ?_;rintro e w2 ⟨rfl,H2,D2,T2⟩;go_wp2;go_ret;exact⟨am (by rw[HT.out]),H2,by rw[HT.out];exact D2,T2.first K⟩
 ·unfold fT
  obtain⟨W,HW,K,D,p0,p1,p2⟩:=boxed h f l c;clear h;obtain⟨q0,q1,q2,q3,q4,q5,q6,q7,q8,q9,q10,q11,q12⟩:=D.cells o ho;clear q0 q1 q2 q3 q4 q5 q6 q7 q9 q10 q11 q12;have HT:Hid (aV d x ⟨f,l,c⟩=ay d x):=by show aV d x ⟨f,l,c⟩=_;simp only[aV,k0];simp
  go_enter Tryz.func206,Tryz.ntmps206
  go_upto_region 1 with fail
  rw[HW.out];go_wp2_with fail;refine(vp b t o pre post d H x _ (by exact D) ho hs hx hi).mono ?_;rintro e w2 ⟨rfl,H2,D2,T2⟩;go_wp2;go_ret;exact⟨am (by rw[HT.out]),H2,by rw[HT.out];exact D2,T2.first K⟩
def eF:Db:=⟨[],[],[],[],[],[],[],[],0,⟨#[]⟩,[],false,[]⟩
abbrev oG:=Int×Pl
def cJ:oG:=(0,⟨⟨#[]⟩,0,0⟩)
def gu(f:oG):Value:=.agg #[.int .i64 f.1,.string f.2.file,.int .i64 f.2.line,.int .i64 f.2.col]
def jx(n s:ByteArray)(p:Nat):Pl:=⟨n,aL s p,aW s p⟩
def gF(n s:ByteArray)(i:pG):oG:=(if i.fin=true then 7 else i.rule,jx n s i.pos)
abbrev Fy:=oG×List Bool×Db
def ph(fs:Fs)(x z:Nat)(p:Pl)(d:Db):oG ⊕ (Nat×Nat) :=
  if je d=true then .inl (4,p)
  else if aG (av (aj fs x) z).1=false then .inl (gF (aC fs x) (aj fs x) (av (aj fs x) z).1)
  else if dw (av (aj fs x) z).1.text=true then .inl (5,jx (aC fs x) (aj fs x) (av (aj fs x) z).1.pos)
  else if bu fs (av (aj fs x) z).1.text<0 then .inl (6,jx (aC fs x) (aj fs x) (av (aj fs x) z).1.pos)
  else if aG (av (aj fs x) (av (aj fs x) z).2).1=false then .inl (gF (aC fs x) (aj fs x) (av (aj fs x) (av (aj fs x) z).2).1)
  else if((av (aj fs x) (av (aj fs x) z).2).1.text.toList == [36,93])=false then .inl (5,jx (aC fs x) (aj fs x) (av (aj fs x) (av (aj fs x) z).2).1.pos)
  else .inr ((bu fs (av (aj fs x) z).1.text).toNat,(av (aj fs x) (av (aj fs x) z).2).2)
def lC(rf:Nat->List Bool->Db->Fy)(fs:Fs)(x z:Nat)(p:Pl)(bg:List Bool)(d:Db):Fy×Nat :=
  match ph fs x z p d with
  | .inl f=>((f,bg,d),z)
  | .inr (j,z')=>(rf j bg d,z')
def iO(rf:Nat->List Bool->Db->Fy)(fs:Fs)(x z:Nat)(t:ByteArray)(p:Pl)(bg:List Bool)(d:Db):Fy×Nat :=
  if(t.toList == [36,91])=true then lC rf fs x z p bg d
  else((if((aV d t p).1==0)=true then cJ else((aV d t p).1,p),bg,(aV d t p).2),z)
def aX(fs:Fs):Nat->Nat->Nat->List Bool->Db->Fy
  | 0,_,_,bg,d=>(cJ,bg,d)
  | f+1,x,k,bg,d =>
    if aG (av (aj fs x) k).1=true then
      (if((iO (fun j bg d=>if bg.getD j true=true then(cJ,bg,d) else aX fs f j 0 (bg.set j true) d) fs x (av (aj fs x) k).2 (av (aj fs x) k).1.text (jx (aC fs x) (aj fs x) (av (aj fs x) k).1.pos) bg d).1.1.1==0)=true
       then aX fs f x (iO (fun j bg d=>if bg.getD j true=true then(cJ,bg,d) else aX fs f j 0 (bg.set j true) d) fs x (av (aj fs x) k).2 (av (aj fs x) k).1.text (jx (aC fs x) (aj fs x) (av (aj fs x) k).1.pos) bg d).2
          (iO (fun j bg d=>if bg.getD j true=true then(cJ,bg,d) else aX fs f j 0 (bg.set j true) d) fs x (av (aj fs x) k).2 (av (aj fs x) k).1.text (jx (aC fs x) (aj fs x) (av (aj fs x) k).1.pos) bg d).1.2.1
          (iO (fun j bg d=>if bg.getD j true=true then(cJ,bg,d) else aX fs f j 0 (bg.set j true) d) fs x (av (aj fs x) k).2 (av (aj fs x) k).1.text (jx (aC fs x) (aj fs x) (av (aj fs x) k).1.pos) bg d).1.2.2
       else(iO (fun j bg d=>if bg.getD j true=true then(cJ,bg,d) else aX fs f j 0 (bg.set j true) d) fs x (av (aj fs x) k).2 (av (aj fs x) k).1.text (jx (aC fs x) (aj fs x) (av (aj fs x) k).1.pos) bg d).1)
    else if(av (aj fs x) k).1.fin=true/\je d=false then(cJ,bg,d) else(gF (aC fs x) (aj fs x) (av (aj fs x) k).1,bg,d)
def b7(fs:Fs)(f:Nat)(j:Nat)(bg:List Bool)(d:Db):Fy :=
  if bg.getD j true=true then(cJ,bg,d) else aX fs f j 0 (bg.set j true) d
def fe(fs:Fs)(f x k:Nat)(bg:List Bool)(d:Db):Fy×Nat :=
  iO (b7 fs f) fs x (av (aj fs x) k).2 (av (aj fs x) k).1.text (jx (aC fs x) (aj fs x) (av (aj fs x) k).1.pos) bg d
theorem vO(fs:Fs)(f x k:Nat)(bg:List Bool)(d:Db)(h1:aG (av (aj fs x) k).1=true)(h2:((fe fs f x k bg d).1.1.1==0)=true) :
    aX fs (f+1) x k bg d=aX fs f x (fe fs f x k bg d).2 (fe fs f x k bg d).1.2.1 (fe fs f x k bg d).1.2.2:=by
  rw[aX,if_pos h1];exact if_pos h2
theorem mC(fs:Fs)(f x k:Nat)(bg:List Bool)(d:Db)(h1:aG (av (aj fs x) k).1=true)(h2:((fe fs f x k bg d).1.1.1==0)=false) :
    aX fs (f+1) x k bg d=(fe fs f x k bg d).1:=by
  rw[aX,if_pos h1];exact if_neg (fun hh=>Bool.noConfusion (h2.symm.trans hh))
theorem xa(fs:Fs)(f x k:Nat)(bg:List Bool)(d:Db)(h1:aG (av (aj fs x) k).1=false)(h2:(av (aj fs x) k).1.fin=true)(h3:je d=false) :
    aX fs (f+1) x k bg d=(cJ,bg,d):=by
  rw[aX,if_neg (by simp[h1]),if_pos ⟨h2,h3⟩]
theorem tP(fs:Fs)(f x k:Nat)(bg:List Bool)(d:Db)(h1:aG (av (aj fs x) k).1=false)(h2:¬((av (aj fs x) k).1.fin=true/\je d=false)) :
    aX fs (f+1) x k bg d=(gF (aC fs x) (aj fs x) (av (aj fs x) k).1,bg,d):=by
  rw[aX,if_neg (by simp[h1]),if_neg h2]
theorem jd{i:pG}(h:aG i=false)(hf:i.fin=false):(i.rule==0)=false:=by
  simp[aG,hf]at h;simpa using h
end Go.Proofs.YtpddjjabfbfifaaGreat

import Derived.Test.YtlbhbocbakijbaaGreatG27
import Derived.Test.YtlbhbocbakijbaaGreatG29
namespace Go.Proofs.YtlbhbocbakijbaaGreat
open Go.RowKit
set_option maxHeartbeats 0
theorem ED(L:List Nat)(n:Nat):(⟨(aP L).e,(aP L).size,(aP L).n+1,(aP L).xs++[.int .i64 n]⟩:eI)=aP (L++[n]):=by simp[aP,iO]
def Ef(n:dM)(f:Fm)(d:Nat)(vals:List Nat)(r:Nat):Bool:=!(bL n (gD f.types vals.length) r)||iL n f d (vals++[r])
theorem Eg(n:dM)(f:Fm)(d:Nat)(vals:List Nat):iL n f (d+1) vals=(List.range (n.mod+1)).all (Ef n f d vals):=rfl
set_option maxRecDepth 100000 in
theorem zi(b x0:Nat)(T:ByteArray)(rv:Value)(n:dM)(Hn:Nat->Hd)(F m0:Nat)(lab:ByteArray)(lv:Value)(f:Fm)(es:List Ex)(hg:Hd)(H:Nat->Hd)(ok:dH n 1073741824)(fo:qz f)(hvm:f.vars.length<=100000)(d:Nat):∀(hw:Hd) (vals:List Nat) (w:World) (_:bm w b x0 T rv n Hn) (_:eJ w F m0 lab lv f es hg H) (_:au w hw (aP vals)) (_:vals.length+d=f.vars.length) (_:∀v∈vals,v<=n.mod),
  Calls Tryz.prog 36 #[.pointer (some ⟨b,3,none⟩),.pointer (some ⟨F,0,none⟩),.slice hw.ao vals.length hw.cap] w fun r w'=>r=.returned (.bool (iL n f d vals))/\aa [] w w':=by
 induction d with
 | zero =>
  intro hw vals w hn h ov hvs hvb;exact wa b x0 T rv n Hn F m0 lab lv f es hg H hw vals w hn ok h fo ov (by omega) hvb
 | succ d ih =>
  intro hw vals w hn h ov hvs hvb;have hbw:=af.lt hn;have hmo:=ok.mod;obtain⟨iN,hiN,hzN0,hzN1,hzN2⟩:=info_parts fU;have HAL:Hid (∀t (r:Nat) wx,r<=3->aa [] w wx->Calls Tryz.prog 67 #[.pointer (some ⟨b,3,none⟩),.string t,.int .i64 r] wx fun e w'=>e=.returned (.bool (bL n t r))/\aa [] wx w'):=fun t r wx hr k=>j6 b x0 T rv n Hn t r wx (af.still hn k) ok hr
  have HIH:Hid (∀(hd:Hd) (r:Nat) wx,r<=n.mod->aa [] w wx->au wx hd (aP (vals++[r]))->Calls Tryz.prog 36 #[.pointer (some ⟨b,3,none⟩),.pointer (some ⟨F,0,none⟩),.slice hd.ao (vals.length+1) hd.cap] wx fun e w'=>e=.returned (.bool (iL n f d (vals++[r])))/\aa [] wx w'):=fun hd r wx hr k o=>by
   have:=ih hd (vals++[r]) wx (af.still hn k) (h.still k) o (by rw[List.length_append,List.length_singleton];omega) (fun v hv=>by
    rcases List.mem_append.1 hv with hv | hv
    ·exact hvb v hv
    ·rw[List.mem_singleton.1 hv];exact hr)
   rwa [List.length_append,List.length_singleton]at this
  have HS:Hid (∀wx,aa [] w wx->(wx.cell? ⟨b,3,none⟩=some (.int .i64 n.mod)/\wx.cell? ⟨F,4,none⟩=some (.slice (H 2).ao f.vars.length (H 2).cap)/\wx.cell? ⟨F,5,none⟩=some (.slice (H 3).ao f.types.length (H 3).cap))/\b<wx.heap.size/\F<wx.heap.size):=fun wx k=>by
   obtain⟨c4,c5,-,-,-,-,hF⟩:=(h.still k).rd;exact⟨⟨(bm.in_ (af.still hn k)).1,c4,c5⟩,Nat.lt_of_lt_of_le hbw k.size,hF⟩
  have hkt:vals.length<f.types.length:=by rw[fo.t];omega
  obtain⟨g3,o3,e3,hc3,HC3⟩:=dL h.vw.2.1 hkt;have HLE:=(show Hid _ from Eg n f d vals);have HDT:Hid (gD f.types vals.length=f.types[vals.length]):=gU _ _ hkt;have HOV:=(show Hid _ from ov);have hvi:(vals.length:Int)<(f.vars.length:Int):=by omega
  have hti:(vals.length:Int)<(f.types.length:Int):=by omega
  have hvl5:vals.length<=100000:=by omega
  have hO0:∀w',au w' ⟨none,0⟩ (aP []):=fun w'=>World.ownsRow_nil _ _ _ _
  have hr0:Hid ((⟨(aP []).e,(aP []).size,(aP []).n+vals.length,(aP []).xs++iO vals⟩:eI)=aP vals):=by show eI.mk _ _ (0+vals.length) ([]++iO vals)=_;rw[Nat.zero_add];rfl
  have hF0:Hid ((aP []).n+vals.length<=1000000000):=by show 0+vals.length<=_;omega
  have hn0:Hid ((aP []).n+vals.length=vals.length):=Nat.zero_add _;have hlen:Hid ((iO vals).length=vals.length*(aP []).size):=by show _=vals.length*1;simp[iO]
  have hnone:Hid (hw.ao=none->vals.length=0/\hw.cap=0):=fun e=>by
   rcases ov.ways with ⟨e1,e2,-⟩ | ⟨g,cur,e1,-⟩
   ·have e2:vals.length=0:=e2
    exact⟨e2,by rw[e1]⟩
   ·rw[e]at e1;cases e1
  have hone:Hid (∀u∈iO vals,u.oneCell'=true):=fun u hu=>by obtain⟨q,-,rfl⟩:=List.mem_map.1 hu;rfl
  rw[e3]at HS;clear h hn ok fo ov e3 ih;obtain⟨AW,CW⟩:=hw;generalize f.types[vals.length]=tt at *;obtain⟨B2,HB2⟩:∃AO,Hid ((H 2).ao=AO):=⟨_,rfl⟩
  rw[HB2.out]at HS;obtain⟨⟨c3,c4,c5⟩,hbr,hFr⟩:=HS.out w (aa.refl _ _);go_enter Tryz.func36,Tryz.ntmps36;go_wp2
  go_loopg [8] (n.mod+1) (fun g iv wr=>∃r:Nat,r<=n.mod+1/\g=n.mod+1-r/\iv=.int .i64 r/\Hid ((List.range r).all (Ef n f d vals)=true)/\aa [] w wr)
  case atStart=>exact⟨0,by omega,rfl,rfl,rfl,aa.refl _ _⟩
  case round =>
   obtain⟨r,hr,hgr,rfl,HT,hK⟩:=hrel;clear c3 c4 c5 hbr hFr;obtain⟨⟨c3,c4,c5⟩,hbr,hFr⟩:=HS.out _ hK
   by_cases hlt:r<n.mod+1
   ·have hri:(r:Int)<=(n.mod:Int):=by omega
    obtain⟨gw3,ct⟩:=HC3 _ hK;have HAL1:=(show Hid _ from HAL.out tt r);have HNX:=(show Hid _ from je (Ef n f d vals) r);rw[HT.out,Bool.true_and]at HNX;have HR1:Hid (Ef n f d vals r=(!(bL n tt r)||iL n f d (vals++[r]))):=by show _=_;unfold Ef;rw[HDT.out]
    have HNO:Hid (Ef n f d vals r=false->iL n f (d+1) vals=false):=fun hh=>by rw[HLE.out];exact yL hlt hh
    go_upto_region 7 with (go_at_call 67;refine Calls.mono (HAL1.out _ (by omega) hK) ?_;rintro e2 w3 ⟨rfl,k3⟩)
    have hK3:=hK.trans k3;clear c3 c4 c5 hbr hFr gw3 ct HAL1
    cases hal:bL n tt r
    ·rw[hal]at HR1
     have HJ1:Hid (Ef n f d vals r=true):=HR1.out;go_wp2
     go_roundg (n.mod+1-(r+1))
     case measure=>omega
     case rel=>exact⟨r+1,by omega,rfl,by go_num,by show _=_;rw[HNX.out];exact HJ1.out,hK3⟩
    ·rw[hal]at HR1
     have HJ2:Hid (Ef n f d vals r=iL n f d (vals++[r])):=HR1.out;have HO1:Hid (au w3 ⟨AW,CW⟩ (aP vals)):=au.still HOV.out hK3
     have hc1:Hid (∀ad,AW=some ad->∀j u,(iO vals)[j]?=some u->w3.cell? (ad.add j)=some u):=fun ad e j u hj=>by
      rcases HO1.out.ways with ⟨e1,-,-⟩ | ⟨g,cur,e1,e2,-⟩
      ·rw[show AW=none from congrArg Hd.ao e1]at e;cases e
      ·rw[show AW=some ⟨g,0,none⟩ from e1]at e
       cases e
       rw[aV];exact(HO1.out.cell e1 j u hj)
     go_upto_region 8 with fail
     go_upto_region 9 with (at_builtin;refine lV _ rfl (.const (.slice none 0 0)) (.tmp 45) 33 rfl iN (.int .i64 0) 8 ⟨none,0⟩ (aP []) Tryz.underlying33 hiN hzN0 hzN1 hzN2 rfl Nat.one_pos rfl (hO0 _) AW vals.length CW (iO vals) rfl hlen.out hnone.out hc1.out hone.out hF0.out (by omega) ?_;intro h5 w5 hw5 hg5;rw[hr0.out]at hw5;rw[hn0.out])
     have hK5:aa [] w w5:=hK3.trans (hg5.kept.mono (by simp[Hd.blk]))
     have HN5:Hid (qA w w5 h5 (aP vals)):=⟨hw5,fun q hq=>(by
      rcases hg5.blk with e | ⟨g,e,hg⟩
      ·rw[e]at hq;cases hq
      ·rw[e]at hq;cases hq;exact Nat.le_trans hK3.size hg),hK5⟩
     clear hw5 hg5 HO1 hc1
     go_upto_region 10 with (at_builtin;refine nG _ rfl (.tmp 47) (.tmp 49) 33 rfl iN (.int .i64 0) 8 h5 (aP vals) [.int .i64 r] Tryz.underlying33 hiN hzN0 hzN1 hzN2 rfl Nat.one_pos rfl HN5.out.own (by simp only[aP];omega) (by omega) rfl rfl (by simp[Value.oneCell']) ?_;intro h6 w6 hw6 hg6;rw[ED]at hw6;have HN6:=(show Hid _ from HN5.out.grew hg6 hw6);clear hw6 hg6)
     have HIH1:=(show Hid _ from HIH.out h6 r w6 (by omega) HN6.out.kept HN6.out.own);have HRN:Hid ((aP vals).n=vals.length):=rfl;rw[HRN.out]
     go_upto_region 11 with (go_at_call 36;refine Calls.mono HIH1.out ?_;rintro e2 w7 ⟨rfl,k7⟩)
     have hK7:aa [] w w7:=HN6.out.kept.trans k7;rw[<-HJ2.out]
     cases hb:Ef n f d vals r
     ·have HJ3:Hid (iL n f (d+1) vals=false):=HNO.out hb
      go_wp2;go_ret;exact⟨GQ HJ3.out.symm,hK7⟩
     ·rw[hb]at HNX
      go_wp2
      go_roundg (n.mod+1-(r+1))
      case measure=>omega
      case rel=>exact⟨r+1,by omega,rfl,by go_num,HNX,hK7⟩
   ·have hri:¬(r:Int)<=(n.mod:Int):=by omega
    have HR:Hid (iL n f (d+1) vals=true):=by show _=_;rw[HLE.out,show n.mod+1=r by omega];exact HT.out
    go_wp2;go_ret;exact⟨GQ HR.out.symm,hK⟩
end Go.Proofs.YtlbhbocbakijbaaGreat

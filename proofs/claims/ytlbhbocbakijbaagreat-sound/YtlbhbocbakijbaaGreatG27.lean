import Derived.Test.YtlbhbocbakijbaaGreatG25
namespace Go.Proofs.YtlbhbocbakijbaaGreat
open Go.RowKit
set_option maxHeartbeats 0
theorem Ei(vals:List Nat):eB (FM vals)=aP vals:=by simp[eB,FM,aP,iO]
def FK(n:dM)(f:Fm)(vals:List Nat)(e:List ByteArray):Bool:=bL n (gD e 0) (dN n e f.vars vals)
theorem DN(n:dM)(f:Fm)(vals:List Nat):si n f vals=if f.ess.all (FK n f vals)=true then bL n (gD f.goal 0) (dN n f.goal f.vars vals) else true:=rfl
theorem AD(n:dM)(vars:List ByteArray)(vals:List Nat)(e:List ByteArray):dN n e vars vals<n.mod+1:=yE n vars vals _ 0 (Nat.succ_pos _)
set_option maxRecDepth 100000 in
theorem wa(b x0:Nat)(T:ByteArray)(rv:Value)(n:dM)(Hn:Nat->Hd)(F m0:Nat)(lab:ByteArray)(lv:Value)(f:Fm)(es:List Ex)(hg:Hd)(H:Nat->Hd)(hw:Hd)(vals:List Nat)(w:World)(hn:bm w b x0 T rv n Hn)(ok:dH n 1073741824)(h:eJ w F m0 lab lv f es hg H)(fo:qz f)(ov:au w hw (aP vals))(hvs:vals.length=f.vars.length)(hvb:∀v∈vals,v<=n.mod) :
  Calls Tryz.prog 36 #[.pointer (some ⟨b,3,none⟩),.pointer (some ⟨F,0,none⟩),.slice hw.ao vals.length hw.cap] w fun r w'=>r=.returned (.bool (si n f vals))/\aa [] w w':=by
 have hbw:=af.lt hn;have hmo:=ok.mod;have HAL:Hid (∀t (r:Nat) wx,r<=3->aa [] w wx->Calls Tryz.prog 67 #[.pointer (some ⟨b,3,none⟩),.string t,.int .i64 r] wx fun e w'=>e=.returned (.bool (bL n t r))/\aa [] wx w'):=fun t r wx hr k=>j6 b x0 T rv n Hn t r wx (af.still hn k) ok hr
 have HVA:Hid (∀(hd:Hd) e wx,aa [] w wx->bH wx hd e->1<=e.length/\e.length<=1073741824->Calls Tryz.prog 70 #[.pointer (some ⟨b,3,none⟩),.slice hd.ao e.length hd.cap,.slice (H 2).ao f.vars.length (H 2).cap,.slice hw.ao vals.length hw.cap] wx fun r w'=>r=.returned (.int .i64 (dN n e f.vars vals:Nat))/\aa [] wx w'):=fun hd e wx k v hl=>AI b x0 T rv n Hn hd (H 2) hw e f.vars vals wx (af.still hn k) ok v (h.vw.1.still k) (by rw[Ei];exact ov.still k) hl fo.v hvs hvb
 have HS:Hid (∀wx,aa [] w wx->(wx.cell? ⟨F,4,none⟩=some (.slice (H 2).ao f.vars.length (H 2).cap)/\wx.cell? ⟨F,6,none⟩=some (.slice (H 4).ao es.length (H 4).cap)/\wx.cell? ⟨F,9,none⟩=some (.slice hg.ao f.goal.length hg.cap))/\b<wx.heap.size/\F<wx.heap.size):=fun wx k=>by
  obtain⟨c4,-,c6,-,-,c9,hF⟩:=(h.still k).rd;exact⟨⟨c4,c6,c9⟩,Nat.lt_of_lt_of_le hbw k.size,hF⟩
 obtain⟨hle,hxs⟩:=h.esl
 have HXS:Hid (∀k (hk:k<es.length),∃hk2:k<f.ess.length,f.ess[k]=es[k].xs/\1<=es[k].xs.length/\es[k].xs.length<=1073741824):=fun k hk=>by
  have hk2:k<f.ess.length:=by omega
  have:=fo.el _ (List.getElem_mem hk2);rw[hxs k hk hk2]at this;exact⟨hk2,hxs k hk hk2,this⟩
 have HEX:Hid (∀k (hk:k<es.length),∃g,(H 4).ao=some ⟨g,0,none⟩/\es.length<=(H 4).cap/\∀wx,aa [] w wx->g<wx.heap.size/\wx.cell? ⟨g,k,none⟩=some (.slice es[k].hd.ao es[k].xs.length es[k].hd.cap)/\bH wx es[k].hd es[k].xs):=fun k hk=>h.ex hk
 have HVG:Hid (bH w hg f.goal):=h.vw.2.2.2.2;have HLE:=(show Hid _ from DN n f vals);have HVLT:=(show Hid _ from AD n f.vars vals);have hesl:es.length<=1073741824:=by have:=fo.e;omega
 have hgl:=fo.g;have hvi:¬(vals.length:Int)<(f.vars.length:Int):=by omega
 have HEL:=(show Hid _ from hle);clear h hn ok fo hxs hle ov hvs hvb;obtain⟨AW,HAW⟩:∃AO,Hid (hw.ao=AO):=⟨_,rfl⟩
 obtain⟨B2,HB2⟩:∃AO,Hid ((H 2).ao=AO):=⟨_,rfl⟩
 obtain⟨B4,HB4⟩:∃AO,Hid ((H 4).ao=AO):=⟨_,rfl⟩
 obtain⟨AG,HAG⟩:∃AO,Hid (hg.ao=AO):=⟨_,rfl⟩
 rw[HB2.out]at HS;rw[HB2.out,HAW.out]at HVA;rw[HB4.out]at HS HEX;rw[HAG.out]at HS;rw[HAW.out];obtain⟨⟨c4,c6,c9⟩,hbr,hFr⟩:=HS.out w (aa.refl _ _);go_enter Tryz.func36,Tryz.ntmps36;go_wp2
 go_loopg [12] es.length (fun g iv wr=>∃k:Nat,k<=es.length/\g=es.length-k/\iv=.int .i64 k/\Hid ((f.ess.take k).all (FK n f vals)=true)/\aa [] w wr)
 case atStart=>exact⟨0,by omega,rfl,rfl,rfl,aa.refl _ _⟩
 case round =>
  obtain⟨k,hk,hgk,rfl,HT,hK⟩:=hrel;clear c4 c6 c9 hbr hFr;obtain⟨⟨c4,c6,c9⟩,hbr,hFr⟩:=HS.out _ hK
  by_cases hlt:k<es.length
  ·have hki:(k:Int)<(es.length:Int):=by omega
   obtain⟨hk2,hxe,hx1,hx2⟩:=HXS.out k hlt;obtain⟨g4,e4,hc4,HC4⟩:=HEX.out k hlt;subst e4;have HNX:=(show Hid _ from jZ (FK n f vals) f.ess k hk2);rw[HT.out,Bool.true_and]at HNX;have HNO:Hid (FK n f vals f.ess[k]=false->si n f vals=true):=fun hh=>by rw[HLE.out,if_neg];rw[FR hk2 hh];simp
   have HIP:Hid (FK n f vals es[k].xs=bL n (gD es[k].xs 0) (dN n es[k].xs f.vars vals)):=rfl;rw[hxe]at HNX HNO;have hk0:0<es[k].xs.length:=by omega
   obtain⟨g0,o0,e0,hc0,HC0⟩:=dL (HC4 w (aa.refl _ _)).2.2 hk0;rw[gU _ _ hk0]at HIP
   have HSS:Hid (∀wx,aa [] w wx->(wx.cell? ⟨F,4,none⟩=some (.slice B2 f.vars.length (H 2).cap)/\wx.cell? ⟨F,6,none⟩=some (.slice (some ⟨g4,0,none⟩) es.length (H 4).cap)/\wx.cell? ⟨g4,k,none⟩=some (.slice (some ⟨g0,o0,none⟩) es[k].xs.length es[k].hd.cap)/\wx.cell? ⟨g0,o0,none⟩=some (.string es[k].xs[0]))/\b<wx.heap.size/\F<wx.heap.size/\g4<wx.heap.size/\g0<wx.heap.size):=fun wx q=>by
    obtain⟨⟨q1,q2,-⟩,q3,q4⟩:=HS.out wx q;obtain⟨p1,p2,-⟩:=HC4 wx q;rw[e0]at p2;have:=(HC0 wx q).2;rw[Nat.add_zero]at this;exact⟨⟨q1,q2,p2,this⟩,q3,q4,p1,(HC0 wx q).1⟩
   have HVA1:Hid (∀wx,aa [] w wx->Calls Tryz.prog 70 #[.pointer (some ⟨b,3,none⟩),.slice (some ⟨g0,o0,none⟩) es[k].xs.length es[k].hd.cap,.slice B2 f.vars.length (H 2).cap,.slice AW vals.length hw.cap] wx fun r w'=>r=.returned (.int .i64 (dN n es[k].xs f.vars vals:Nat))/\aa [] wx w'):=fun wx q=>by
    have:=HVA.out es[k].hd es[k].xs wx q (HC4 wx q).2.2 ⟨hx1,hx2⟩;rwa [e0]at this
   have hvl:=HVLT.out es[k].xs;have HAL1:=(show Hid _ from HAL.out es[k].xs[0] (dN n es[k].xs f.vars vals));generalize es[k].xs[0]=t at *;generalize dN n es[k].xs f.vars vals=vv at *;generalize FK n f vals es[k].xs=ib at *;clear HC4 HC0 e0 hxe HEX HXS HVA HAL;generalize es[k].hd.cap=cp at *;generalize es[k].xs.length=xl at *;obtain⟨⟨d0,d1,d2,d3⟩,d4,d5,d6,d7⟩:=HSS.out _ hK;have hx0:(0:Int)<(xl:Int):=by omega
   go_upto_region 17 with fail
   go_region_held3 (fun w'=>w'.cell? ⟨F,4,none⟩=some (.slice B2 f.vars.length (H 2).cap)/\w'.cell? ⟨F,6,none⟩=some (.slice (some ⟨g4,0,none⟩) es.length (H 4).cap)/\w'.cell? ⟨g4,k,none⟩=some (.slice (some ⟨g0,o0,none⟩) xl cp)) (go_keep) ((go_at_call 70;refine Calls.mono (HVA1.out _ (by exact hK.drew)) ?_;rintro e2 w2 ⟨rfl,k2⟩;obtain⟨⟨d0,d1,d2,d3⟩,d4,d5,d6,d7⟩:=HSS.out _ (hK.drew.trans k2)))
   have hK1:=hK.drew.trans k2;clear d0 d1 d2 d3 d4 d5 d6 d7;obtain⟨⟨d0,d1,d2,d3⟩,d4,d5,d6,d7⟩:=HSS.out _ hK1
   go_upto_region 19 with (go_at_call 67;refine Calls.mono (HAL1.out _ (by omega) hK1) ?_;rintro e2 w3 ⟨rfl,k3⟩)
   have hK3:=hK1.trans k3;rw[<-HIP.out];clear HIP HVA1 HAL1 HSS d0 d1 d2 d3 d4 d5 d6 d7
   cases ib
   ·have HJ1:Hid (si n f vals=true):=HNO.out rfl
    go_wp2;go_ret;exact⟨GQ HJ1.out.symm,hK3⟩
   ·go_wp2
    go_roundg (es.length-(k+1))
    case measure=>omega
    case rel=>exact⟨k+1,by omega,rfl,by go_num,HNX,hK3⟩
  ·have hki:¬(k:Int)<(es.length:Int):=by omega
   have hk0:0<f.goal.length:=by omega
   have HLE2:Hid (si n f vals=bL n f.goal[0] (dN n f.goal f.vars vals)):=by
    show _=_
    rw[HLE.out,if_pos,gU _ _ hk0];have:=HT.out;rwa [List.take_of_length_le (by have:=HEL.out;omega)]at this
   obtain⟨g0,o0,e0,hc0,HC0⟩:=dL HVG.out hk0;obtain rfl:AG=some ⟨g0,o0,none⟩:=HAG.out.symm.trans e0
   have HSS:Hid (∀wx,aa [] w wx->(wx.cell? ⟨F,4,none⟩=some (.slice B2 f.vars.length (H 2).cap)/\wx.cell? ⟨F,9,none⟩=some (.slice (some ⟨g0,o0,none⟩) f.goal.length hg.cap)/\wx.cell? ⟨g0,o0,none⟩=some (.string f.goal[0]))/\b<wx.heap.size/\F<wx.heap.size/\g0<wx.heap.size):=fun wx q=>by
    obtain⟨⟨q1,-,q2⟩,q3,q4⟩:=HS.out wx q;have:=(HC0 wx q).2;rw[Nat.add_zero]at this;exact⟨⟨q1,q2,this⟩,q3,q4,(HC0 wx q).1⟩
   have HVA1:Hid (∀wx,aa [] w wx->Calls Tryz.prog 70 #[.pointer (some ⟨b,3,none⟩),.slice (some ⟨g0,o0,none⟩) f.goal.length hg.cap,.slice B2 f.vars.length (H 2).cap,.slice AW vals.length hw.cap] wx fun r w'=>r=.returned (.int .i64 (dN n f.goal f.vars vals:Nat))/\aa [] wx w'):=fun wx q=>by
    have:=HVA.out hg f.goal wx q (bH.still HVG.out q) hgl;rwa [e0]at this
   have hvl:=HVLT.out f.goal;have HAL1:=(show Hid _ from HAL.out f.goal[0] (dN n f.goal f.vars vals));generalize f.goal[0]=t at *;generalize dN n f.goal f.vars vals=vv at *;clear HC0 e0 HEX HXS HVA HAL HS c4 c9;obtain⟨⟨d0,d1,d2⟩,d4,d5,d6⟩:=HSS.out _ hK;have hx0:(0:Int)<(f.goal.length:Int):=by omega
   go_upto_region 21 with fail
   clear c6
   go_region_held3 (fun w'=>w'.cell? ⟨F,4,none⟩=some (.slice B2 f.vars.length (H 2).cap)/\w'.cell? ⟨F,9,none⟩=some (.slice (some ⟨g0,o0,none⟩) f.goal.length hg.cap)) (go_keep) ((go_at_call 70;refine Calls.mono (HVA1.out _ (by exact hK.drew)) ?_;rintro e2 w2 ⟨rfl,k2⟩;obtain⟨⟨d0,d1,d2⟩,d4,d5,d6⟩:=HSS.out _ (hK.drew.trans k2)))
   have hK1:=hK.drew.trans k2;clear d0 d1 d2 d4 d5 d6;obtain⟨⟨d0,d1,d2⟩,d4,d5,d6⟩:=HSS.out _ hK1;go_wp2_with (go_at_call 67;refine Calls.mono (HAL1.out _ (by omega) hK1) ?_;rintro e2 w3 ⟨rfl,k3⟩);go_ret;exact⟨GQ HLE2.out.symm,hK1.trans k3⟩
end Go.Proofs.YtlbhbocbakijbaaGreat

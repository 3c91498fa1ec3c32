import Derived.Test.YtlbhbocbakijbaaGreatG24
namespace Go.Proofs.YtlbhbocbakijbaaGreat
open Go.RowKit
set_option maxHeartbeats 0
structure qz(f:Fm):Prop where
 v:f.vars.length<=1073741824
 t:f.types.length=f.vars.length
 l:f.left.length<=1073741824/\f.right.length=f.left.length
 e:f.ess.length<=1073741824
 el:∀x∈f.ess,1<=x.length/\x.length<=1073741824
 g:1<=f.goal.length/\f.goal.length<=1073741824
def FL(n:dM)(f:Fm)(e:List ByteArray):Bool:=!lp n (gD e 0)||di f e
theorem B7(n:dM)(f:Fm):gg n f=if f.ess.all (FL n f)=true then(!lp n (gD f.goal 0)||di f f.goal) else true:=rfl
theorem FR{α:Type}{p:α->Bool}{l:List α}{k:Nat}(hk:k<l.length)(hp:p l[k]=false):l.all p=false:=by
 rw[List.all_eq_false];exact⟨l[k],List.getElem_mem hk,by rw[hp];simp⟩
set_option maxRecDepth 100000 in
theorem zl(b x:Nat)(T:ByteArray)(rv:Value)(n:dM)(Hn:Nat->Hd)(F m0:Nat)(lab:ByteArray)(lv:Value)(f:Fm)(es:List Ex)(hg:Hd)(H:Nat->Hd)(w:World)(hn:bm w b x T rv n Hn)(ok:dH n 1073741824)(h:eJ w F m0 lab lv f es hg H)(fo:qz f) :
  Calls Tryz.prog 38 #[.pointer (some ⟨b,3,none⟩),.pointer (some ⟨F,0,none⟩)] w fun r w'=>r=.returned (.bool (gg n f))/\aa [] w w':=by
 have hbw:=af.lt hn;have HFI:Hid (∀s wx,aa [] w wx->Calls Tryz.prog 32 #[.slice (Hn 4).ao n.lin.length (Hn 4).cap,.string s] wx fun r w'=>r=.returned (.int .i64 (bQ (aL n.lin s)))/\w'=wx):=fun s wx k=>eC (Hn 4) n.lin s wx (hn.own.2.2.2.2.view.still k) ok.ll
 have HFL:Hid (∀(hd:Hd) e wx,aa [] w wx->bH wx hd e->1<=e.length/\e.length<=1073741824->Calls Tryz.prog 73 #[.pointer (some ⟨F,0,none⟩),.slice hd.ao e.length hd.cap] wx fun r w'=>r=.returned (.bool (di f e))/\aa [] wx w'):=fun hd e wx k v hl=>wz F m0 lab lv f es hg H hd e wx (h.still k) v fo.l fo.v hl
 have HS:Hid (∀wx,aa [] w wx->(wx.cell? ⟨b,8,none⟩=some (.slice (Hn 4).ao n.lin.length (Hn 4).cap)/\wx.cell? ⟨F,6,none⟩=some (.slice (H 4).ao es.length (H 4).cap)/\wx.cell? ⟨F,9,none⟩=some (.slice hg.ao f.goal.length hg.cap))/\b<wx.heap.size/\F<wx.heap.size):=fun wx k=>by
  obtain⟨-,-,c6,-,-,c9,hF⟩:=(h.still k).rd;exact⟨⟨(bm.in_ (af.still hn k)).2.2.2.2.2,c6,c9⟩,Nat.lt_of_lt_of_le hbw k.size,hF⟩
 obtain⟨hle,hxs⟩:=h.esl
 have HXS:Hid (∀k (hk:k<es.length),∃hk2:k<f.ess.length,f.ess[k]=es[k].xs/\1<=es[k].xs.length/\es[k].xs.length<=1073741824):=fun k hk=>by
  have hk2:k<f.ess.length:=by omega
  have:=fo.el _ (List.getElem_mem hk2);rw[hxs k hk hk2]at this;exact⟨hk2,hxs k hk hk2,this⟩
 have HEX:Hid (∀k (hk:k<es.length),∃g,(H 4).ao=some ⟨g,0,none⟩/\es.length<=(H 4).cap/\∀wx,aa [] w wx->g<wx.heap.size/\wx.cell? ⟨g,k,none⟩=some (.slice es[k].hd.ao es[k].xs.length es[k].hd.cap)/\bH wx es[k].hd es[k].xs):=fun k hk=>h.ex hk
 have HVG:Hid (bH w hg f.goal):=h.vw.2.2.2.2;have HLE:=(show Hid _ from B7 n f);have hesl:es.length<=1073741824:=by have:=fo.e;omega
 have hgl:=fo.g;have HEL:=(show Hid _ from hle);clear h hn ok fo hxs hle;obtain⟨A4,HA4⟩:∃AO,Hid ((Hn 4).ao=AO):=⟨_,rfl⟩
 obtain⟨B4,HB4⟩:∃AO,Hid ((H 4).ao=AO):=⟨_,rfl⟩
 obtain⟨AG,HAG⟩:∃AO,Hid (hg.ao=AO):=⟨_,rfl⟩
 rw[HA4.out]at HFI HS;rw[HB4.out]at HS HEX;rw[HAG.out]at HS;obtain⟨⟨c8,c6,c9⟩,hbr,hFr⟩:=HS.out w (aa.refl _ _);go_enter Tryz.func38,Tryz.ntmps38;go_wp2
 go_loopg [5] es.length (fun g iv wr=>∃k:Nat,k<=es.length/\g=es.length-k/\iv=.int .i64 k/\Hid ((f.ess.take k).all (FL n f)=true)/\aa [] w wr)
 case atStart=>exact⟨0,by omega,rfl,rfl,rfl,aa.refl _ _⟩
 case round =>
  obtain⟨k,hk,hgk,rfl,HT,hK⟩:=hrel;clear c8 c6 c9 hbr hFr;obtain⟨⟨c8,c6,c9⟩,hbr,hFr⟩:=HS.out _ hK
  by_cases hlt:k<es.length
  ·have hki:(k:Int)<(es.length:Int):=by omega
   obtain⟨hk2,hxe,hx1,hx2⟩:=HXS.out k hlt;obtain⟨g4,e4,hc4,HC4⟩:=HEX.out k hlt;subst e4;have HNX:=(show Hid _ from jZ (FL n f) f.ess k hk2);rw[HT.out,Bool.true_and]at HNX;have HNO:Hid (FL n f f.ess[k]=false->gg n f=true):=fun hh=>by rw[HLE.out,if_neg];rw[FR hk2 hh];simp
   have HIP:Hid (FL n f es[k].xs=(!(aL n.lin (gD es[k].xs 0)).isSome||di f es[k].xs)):=rfl;rw[hxe]at HNX HNO;have hk0:0<es[k].xs.length:=by omega
   obtain⟨g0,o0,e0,hc0,HC0⟩:=dL (HC4 w (aa.refl _ _)).2.2 hk0;rw[gU _ _ hk0]at HIP
   have HSS:Hid (∀wx,aa [] w wx->(wx.cell? ⟨b,8,none⟩=some (.slice A4 n.lin.length (Hn 4).cap)/\wx.cell? ⟨F,6,none⟩=some (.slice (some ⟨g4,0,none⟩) es.length (H 4).cap)/\wx.cell? ⟨g4,k,none⟩=some (.slice (some ⟨g0,o0,none⟩) es[k].xs.length es[k].hd.cap)/\wx.cell? ⟨g0,o0,none⟩=some (.string es[k].xs[0]))/\b<wx.heap.size/\F<wx.heap.size/\g4<wx.heap.size/\g0<wx.heap.size):=fun wx q=>by
    obtain⟨⟨q1,q2,-⟩,q3,q4⟩:=HS.out wx q;obtain⟨p1,p2,-⟩:=HC4 wx q;rw[e0]at p2;have:=(HC0 wx q).2;rw[Nat.add_zero]at this;exact⟨⟨q1,q2,p2,this⟩,q3,q4,p1,(HC0 wx q).1⟩
   have HFL1:Hid (∀wx,aa [] w wx->Calls Tryz.prog 73 #[.pointer (some ⟨F,0,none⟩),.slice (some ⟨g0,o0,none⟩) es[k].xs.length es[k].hd.cap] wx fun r w'=>r=.returned (.bool (di f es[k].xs))/\aa [] wx w'):=fun wx q=>by
    have:=HFL.out es[k].hd es[k].xs wx q (HC4 wx q).2.2 ⟨hx1,hx2⟩;rwa [e0]at this
   have HF1:=(show Hid _ from HFI.out es[k].xs[0]);generalize es[k].xs[0]=t at *;generalize hcc:es[k].hd.cap=cp at *;generalize hxl:es[k].xs.length=xl at *;generalize di f es[k].xs=lb at *;generalize FL n f es[k].xs=ib at *;clear hcc hxl HC4 HC0 e0 hxe HEX HXS HFL HFI;obtain⟨⟨d0,d1,d2,d3⟩,d4,d5,d6,d7⟩:=HSS.out _ hK;have hx0:(0:Int)<(xl:Int):=by omega
   go_upto_region 4 with fail
   go_region_held3 (fun w'=>w'.cell? ⟨b,8,none⟩=some (.slice A4 n.lin.length (Hn 4).cap)/\w'.cell? ⟨F,6,none⟩=some (.slice (some ⟨g4,0,none⟩) es.length (H 4).cap)/\w'.cell? ⟨g4,k,none⟩=some (.slice (some ⟨g0,o0,none⟩) xl cp)/\w'.cell? ⟨g0,o0,none⟩=some (.string t)) (go_keep) ((go_at_call 32;refine Calls.mono (HF1.out _ (by exact hK.drew)) ?_;rintro e2 w2 ⟨rfl,hw2⟩;rw[hw2];clear hw2))
   have hK1:=hK.drew;clear d0 d1 d2 d3 d4 d5 d6 d7;obtain⟨⟨d0,d1,d2,d3⟩,d4,d5,d6,d7⟩:=HSS.out _ hK1;generalize World.drew _=wd at *
   go_upto_region 6 with (go_at_call 73;refine Calls.mono (HFL1.out _ hK1) ?_;rintro e2 w3 ⟨rfl,k3⟩)
   have hK3:=hK1.trans k3;clear HF1 HFL1 HSS d0 d1 d2 d3 d4 d5 d6 d7
   cases hpu:aL n.lin t with
   | none =>
    rw[hpu]at HIP;have HJ1:Hid (ib=true):=HIP.out;rw[show bQ none=-1 from rfl];go_wp2
    go_roundg (es.length-(k+1))
    case measure=>omega
    case rel=>exact⟨k+1,by omega,rfl,by go_num,by show _=_;rw[HNX.out];exact HJ1.out,hK3⟩
   | some p =>
    rw[hpu]at HIP;rw[show bQ (some p)=(p:Int) from rfl]
    cases lb
    ·have HJ1:Hid (gg n f=true):=HNO.out HIP.out
     go_wp2;go_ret;exact⟨GQ HJ1.out.symm,hK3⟩
    ·have HJ1:Hid (ib=true):=HIP.out
     go_wp2
     go_roundg (es.length-(k+1))
     case measure=>omega
     case rel=>exact⟨k+1,by omega,rfl,by go_num,by show _=_;rw[HNX.out];exact HJ1.out,hK3⟩
  ·have hki:¬(k:Int)<(es.length:Int):=by omega
   have hk0:0<f.goal.length:=by omega
   have HLE2:Hid (gg n f=(!(aL n.lin f.goal[0]).isSome||di f f.goal)):=by
    show _=_
    rw[HLE.out,if_pos,gU _ _ hk0]
    ·rfl
    ·have:=HT.out
     rwa [List.take_of_length_le (by have:=HEL.out;omega)]at this
   obtain⟨g0,o0,e0,hc0,HC0⟩:=dL HVG.out hk0;obtain rfl:AG=some ⟨g0,o0,none⟩:=HAG.out.symm.trans e0
   have HSS:Hid (∀wx,aa [] w wx->(wx.cell? ⟨b,8,none⟩=some (.slice A4 n.lin.length (Hn 4).cap)/\wx.cell? ⟨F,9,none⟩=some (.slice (some ⟨g0,o0,none⟩) f.goal.length hg.cap)/\wx.cell? ⟨g0,o0,none⟩=some (.string f.goal[0]))/\b<wx.heap.size/\F<wx.heap.size/\g0<wx.heap.size):=fun wx q=>by
    obtain⟨⟨q1,-,q2⟩,q3,q4⟩:=HS.out wx q;have:=(HC0 wx q).2;rw[Nat.add_zero]at this;exact⟨⟨q1,q2,this⟩,q3,q4,(HC0 wx q).1⟩
   have HFL1:Hid (∀wx,aa [] w wx->Calls Tryz.prog 73 #[.pointer (some ⟨F,0,none⟩),.slice (some ⟨g0,o0,none⟩) f.goal.length hg.cap] wx fun r w'=>r=.returned (.bool (di f f.goal))/\aa [] wx w'):=fun wx q=>by
    have:=HFL.out hg f.goal wx q (bH.still HVG.out q) hgl;rwa [e0]at this
   have HF1:=(show Hid _ from HFI.out f.goal[0]);generalize f.goal[0]=t at *;generalize di f f.goal=lb at *;clear HC0 e0 HEX HXS HFL HFI HS c8 c9;obtain⟨⟨d0,d1,d2⟩,d4,d5,d6⟩:=HSS.out _ hK;have hx0:(0:Int)<(f.goal.length:Int):=by omega
   go_upto_region 8 with fail
   clear c6
   go_region_held3 (fun w'=>w'.cell? ⟨b,8,none⟩=some (.slice A4 n.lin.length (Hn 4).cap)/\w'.cell? ⟨F,9,none⟩=some (.slice (some ⟨g0,o0,none⟩) f.goal.length hg.cap)/\w'.cell? ⟨g0,o0,none⟩=some (.string t)) (go_keep) ((go_at_call 32;refine Calls.mono (HF1.out _ (by exact hK.drew)) ?_;rintro e2 w2 ⟨rfl,hw2⟩;rw[hw2];clear hw2))
   have hK1:=hK.drew;clear d0 d1 d2 d4 d5 d6;obtain⟨⟨d0,d1,d2⟩,d4,d5,d6⟩:=HSS.out _ hK1;generalize World.drew _=wd at *
   go_upto_region 10 with (go_at_call 73;refine Calls.mono (HFL1.out _ hK1) ?_;rintro e2 w3 ⟨rfl,k3⟩)
   have hK3:=hK1.trans k3;clear HF1 HFL1 HSS d0 d1 d2 d4 d5 d6
   cases hpu:aL n.lin t with
   | none =>
    rw[hpu]at HLE2;have HJ1:Hid (gg n f=true):=HLE2.out;rw[show bQ none=-1 from rfl];go_wp2;go_ret;exact⟨GQ HJ1.out.symm,hK3⟩
   | some p =>
    rw[hpu]at HLE2;have HJ1:Hid (gg n f=lb):=HLE2.out;rw[show bQ (some p)=(p:Int) from rfl];go_wp2;go_ret;exact⟨GQ HJ1.out.symm,hK3⟩
theorem GB{α:Type}{p:α->Bool}{l:List α}{k:Nat}(hk:k<l.length)(hp:p l[k]=true):l.any p=true:=by
 rw[List.any_eq_true];exact⟨l[k],List.getElem_mem hk,hp⟩
theorem Bk{α:Type}(p:α->Bool)(l:List α)(k:Nat)(h:k<l.length):(l.take (k+1)).any p=((l.take k).any p||p l[k]):=by
 rw[List.take_succ_eq_append_getElem h,List.any_append];simp
theorem AM{w:World}{g o c:Nat}{e:List ByteArray}(v:bH w ⟨some ⟨g,o,none⟩,c⟩ e):bH w ⟨some ⟨g,o+1,none⟩,c-1⟩ (e.drop 1):=by
 rcases v with h0 | ⟨g',off,cur,t,e1,e2,e3,e4,e5⟩
 ·rw[h0];exact Or.inl rfl
 ·cases e1
  refine Or.inr ⟨g,o+1,cur,t,rfl,e2,fun j y hj=>?_,by simp only at e4 ⊢;rw[List.length_drop];omega,by simp only at e5 ⊢;omega⟩;rw[List.getElem?_drop]at hj;rw[show o+1+j=o+(1+j) by omega];exact e3 _ y hj
set_option maxRecDepth 100000 in
theorem xb(b x0:Nat)(T:ByteArray)(rv:Value)(n:dM)(Hn:Nat->Hd)(F m0:Nat)(lab:ByteArray)(lv:Value)(f:Fm)(es:List Ex)(hg:Hd)(H:Nat->Hd)(x y:ByteArray)(two:Bool)(w:World)(hn:bm w b x0 T rv n Hn)(ok:dH n 1073741824)(h:eJ w F m0 lab lv f es hg H)(fo:qz f) :
  Calls Tryz.prog 71 #[.pointer (some ⟨b,3,none⟩),.pointer (some ⟨F,0,none⟩),.string x,.string y,.bool two] w fun r w'=>r=.returned (.bool (eN n f x y two))/\aa [] w w':=by
 have hbw:=af.lt hn;have HFI:Hid (∀s wx,aa [] w wx->Calls Tryz.prog 32 #[.slice (Hn 4).ao n.lin.length (Hn 4).cap,.string s] wx fun r w'=>r=.returned (.int .i64 (bQ (aL n.lin s)))/\w'=wx):=fun s wx k=>eC (Hn 4) n.lin s wx (hn.own.2.2.2.2.view.still k) ok.ll
 have HS:Hid (∀wx,aa [] w wx->(wx.cell? ⟨b,8,none⟩=some (.slice (Hn 4).ao n.lin.length (Hn 4).cap)/\wx.cell? ⟨F,6,none⟩=some (.slice (H 4).ao es.length (H 4).cap))/\b<wx.heap.size/\F<wx.heap.size):=fun wx k=>by
  obtain⟨-,-,c6,-,-,-,hF⟩:=(h.still k).rd;exact⟨⟨(bm.in_ (af.still hn k)).2.2.2.2.2,c6⟩,Nat.lt_of_lt_of_le hbw k.size,hF⟩
 obtain⟨hle,hxs⟩:=h.esl
 have HXS:Hid (∀k (hk:k<es.length),∃hk2:k<f.ess.length,f.ess[k]=es[k].xs/\1<=es[k].xs.length/\es[k].xs.length<=1073741824):=fun k hk=>by
  have hk2:k<f.ess.length:=by omega
  have:=fo.el _ (List.getElem_mem hk2);rw[hxs k hk hk2]at this;exact⟨hk2,hxs k hk hk2,this⟩
 have HEX:Hid (∀k (hk:k<es.length),∃g,(H 4).ao=some ⟨g,0,none⟩/\es.length<=(H 4).cap/\∀wx,aa [] w wx->g<wx.heap.size/\wx.cell? ⟨g,k,none⟩=some (.slice es[k].hd.ao es[k].xs.length es[k].hd.cap)/\bH wx es[k].hd es[k].xs):=fun k hk=>h.ex hk
 have HLE:Hid (eN n f x y two=f.ess.any (fI n x y two)):=rfl;have hesl:es.length<=1073741824:=by have:=fo.e;omega
 have HEL:=(show Hid _ from hle);clear h hn ok fo hxs hle;obtain⟨A4,HA4⟩:∃AO,Hid ((Hn 4).ao=AO):=⟨_,rfl⟩
 obtain⟨B4,HB4⟩:∃AO,Hid ((H 4).ao=AO):=⟨_,rfl⟩
 rw[HA4.out]at HFI HS;rw[HB4.out]at HS HEX;obtain⟨⟨c8,c6⟩,hbr,hFr⟩:=HS.out w (aa.refl _ _);go_enter Tryz.func71,Tryz.ntmps71;go_wp2
 go_loopg [11] es.length (fun g iv wr=>∃k:Nat,k<=es.length/\g=es.length-k/\iv=.int .i64 k/\Hid ((f.ess.take k).any (fI n x y two)=false)/\aa [] w wr)
 case atStart=>exact⟨0,by omega,rfl,rfl,rfl,aa.refl _ _⟩
 case round =>
  obtain⟨k,hk,hgk,rfl,HT,hK⟩:=hrel;clear c8 c6 hbr hFr;obtain⟨⟨c8,c6⟩,hbr,hFr⟩:=HS.out _ hK
  by_cases hlt:k<es.length
  ·have hki:(k:Int)<(es.length:Int):=by omega
   obtain⟨hk2,hxe,hx1,hx2⟩:=HXS.out k hlt;obtain⟨g4,e4,hc4,HC4⟩:=HEX.out k hlt;subst e4;have HNX:=(show Hid _ from Bk (fI n x y two) f.ess k hk2);rw[HT.out,Bool.false_or]at HNX;have HNO:Hid (fI n x y two f.ess[k]=true->eN n f x y two=true):=fun hh=>by rw[HLE.out];exact GB hk2 hh
   have HIP:Hid (fI n x y two es[k].xs=((aL n.lin (gD es[k].xs 0)).isSome&&(ig es[k].xs x y||(!two&&(aL (es[k].xs.drop 1) x).isSome)))):=rfl;rw[hxe]at HNX HNO;have hk0:0<es[k].xs.length:=by omega
   obtain⟨g0,o0,e0,hc0,HC0⟩:=dL (HC4 w (aa.refl _ _)).2.2 hk0;rw[gU _ _ hk0]at HIP
   have HSS:Hid (∀wx,aa [] w wx->(wx.cell? ⟨b,8,none⟩=some (.slice A4 n.lin.length (Hn 4).cap)/\wx.cell? ⟨F,6,none⟩=some (.slice (some ⟨g4,0,none⟩) es.length (H 4).cap)/\wx.cell? ⟨g4,k,none⟩=some (.slice (some ⟨g0,o0,none⟩) es[k].xs.length es[k].hd.cap)/\wx.cell? ⟨g0,o0,none⟩=some (.string es[k].xs[0]))/\b<wx.heap.size/\F<wx.heap.size/\g4<wx.heap.size/\g0<wx.heap.size):=fun wx q=>by
    obtain⟨⟨q1,q2⟩,q3,q4⟩:=HS.out wx q;obtain⟨p1,p2,-⟩:=HC4 wx q;rw[e0]at p2;have:=(HC0 wx q).2;rw[Nat.add_zero]at this;exact⟨⟨q1,q2,p2,this⟩,q3,q4,p1,(HC0 wx q).1⟩
   have HVW:Hid (∀wx,aa [] w wx->bH wx ⟨some ⟨g0,o0,none⟩,es[k].hd.cap⟩ es[k].xs):=fun wx q=>by
    have:=(HC4 wx q).2.2;rw[<-e0];exact this
   have HFL1:Hid (∀wx,aa [] w wx->Calls Tryz.prog 89 #[.slice (some ⟨g0,o0,none⟩) es[k].xs.length es[k].hd.cap,.string x,.string y] wx fun r w'=>r=.returned (.bool (ig es[k].xs x y))/\aa [] wx w'):=fun wx q=>Ay ⟨some ⟨g0,o0,none⟩,es[k].hd.cap⟩ es[k].xs x y wx (HVW.out wx q) ⟨hx1,hx2⟩
   have HF2:Hid (∀wx,aa [] w wx->Calls Tryz.prog 32 #[.slice (if es[k].hd.cap=1 then some ⟨g0,o0,none⟩ else some ⟨g0,o0+1,none⟩) (es[k].xs.length-1) (es[k].hd.cap-1),.string x] wx fun r w'=>r=.returned (.int .i64 (bQ (aL (es[k].xs.drop 1) x)))/\w'=wx):=fun wx q=>by
    have vv:bH wx ⟨if es[k].hd.cap=1 then some ⟨g0,o0,none⟩ else some ⟨g0,o0+1,none⟩,es[k].hd.cap-1⟩ (es[k].xs.drop 1):=by
     by_cases c:es[k].hd.cap=1
     ·exact Or.inl (List.eq_nil_of_length_eq_zero (by rw[List.length_drop];omega))
     ·rw[if_neg c];exact AM (HVW.out wx q)
    have:=eC _ (es[k].xs.drop 1) x wx vv (by rw[List.length_drop];omega);rwa [List.length_drop]at this
   have HF1:=(show Hid _ from HFI.out es[k].xs[0]);generalize es[k].xs[0]=t at *;generalize aL (es[k].xs.drop 1) x=q1 at *;generalize ig es[k].xs x y=lb at *;generalize fI n x y two es[k].xs=ib at *;clear HC4 HC0 e0 hxe HEX HXS HFI HVW;generalize es[k].hd.cap=cp at *;generalize es[k].xs.length=xl at *;obtain⟨⟨d0,d1,d2,d3⟩,d4,d5,d6,d7⟩:=HSS.out _ hK;have hx0:(0:Int)<(xl:Int):=by omega
   go_upto_region 4 with fail
   go_region_held3 (fun w'=>w'.cell? ⟨b,8,none⟩=some (.slice A4 n.lin.length (Hn 4).cap)/\w'.cell? ⟨F,6,none⟩=some (.slice (some ⟨g4,0,none⟩) es.length (H 4).cap)/\w'.cell? ⟨g4,k,none⟩=some (.slice (some ⟨g0,o0,none⟩) xl cp)/\w'.cell? ⟨g0,o0,none⟩=some (.string t)) (go_keep) ((go_at_call 32;refine Calls.mono (HF1.out _ (by exact hK.drew)) ?_;rintro e2 w2 ⟨rfl,hw2⟩;rw[hw2];clear hw2))
   have hK1:=hK.drew;clear d0 d1 d2 d3 d4 d5 d6 d7;obtain⟨⟨d0,d1,d2,d3⟩,d4,d5,d6,d7⟩:=HSS.out _ hK1;generalize World.drew _=wd at *
   go_upto_region 6 with (go_at_call 89;refine Calls.mono (HFL1.out _ hK1) ?_;rintro e2 w3 ⟨rfl,k3⟩)
   have hK3:=hK1.trans k3;clear d0 d1 d2 d3 d4 d5 d6 d7;obtain⟨⟨d0,d1,d2,d3⟩,d4,d5,d6,d7⟩:=HSS.out _ hK3;have hcx:(xl:Int)<=(cp:Int):=by omega
   have h1x:(1:Int)<=(xl:Int):=by omega
   have e1:((xl:Int)-1).toNat=xl-1:=by omega
   have e2:((cp:Int)-1).toNat=cp-1:=by omega
   go_upto_region 7 with (go_at_call 32;refine Calls.mono (HF2.out _ hK3) ?_;rintro e2 w4 ⟨rfl,hw4⟩;rw[hw4];clear hw4)
   clear HF1 HF2 HFL1 HSS d0 d1 d2 d3 d4 d5 d6 d7;generalize (if cp=1 then some (⟨g0,o0,none⟩:Addr) else some ⟨g0,o0+1,none⟩)=AA;have goN:ib=false->Hid ((f.ess.take (k+1)).any (fI n x y two)=false):=fun hh=>by show _=_;rw[HNX.out];exact hh
   have GON:=(show Hid _ from goN);clear goN HNX
   cases hpu:aL n.lin t with
   | none =>
    rw[hpu]at HIP;have HJ1:Hid (ib=false):=HIP.out;rw[show bQ none=-1 from rfl];go_wp2
    go_roundg (es.length-(k+1))
    case measure=>omega
    case rel=>exact⟨k+1,by omega,rfl,by go_num,GON.out HJ1.out,hK3⟩
   | some p =>
    rw[hpu]at HIP;rw[show bQ (some p)=(p:Int) from rfl]
    cases lb
    ·cases two
     ·cases q1 with
      | none =>
       have HJ1:Hid (ib=false):=HIP.out;rw[show bQ none=-1 from rfl];go_wp2
       go_roundg (es.length-(k+1))
       case measure=>omega
       case rel=>exact⟨k+1,by omega,rfl,by go_num,GON.out HJ1.out,hK3⟩
      | some p2 =>
       rw[show bQ (some p2)=(p2:Int) from rfl];have HJ1:Hid (eN n f x y false=true):=HNO.out HIP.out;go_wp2;go_ret;exact⟨GQ HJ1.out.symm,hK3⟩
     ·have HJ1:Hid (ib=false):=HIP.out
      go_wp2
      go_roundg (es.length-(k+1))
      case measure=>omega
      case rel=>exact⟨k+1,by omega,rfl,by go_num,GON.out HJ1.out,hK3⟩
    ·have HJ1:Hid (eN n f x y two=true):=HNO.out HIP.out
     go_wp2;go_ret;exact⟨GQ HJ1.out.symm,hK3⟩
  ·have hki:¬(k:Int)<(es.length:Int):=by omega
   have HR:Hid (eN n f x y two=false):=by
    show _=_
    rw[HLE.out];have:=HT.out;rwa [List.take_of_length_le (by have:=HEL.out;omega)]at this
   go_wp2;go_ret;exact⟨GQ HR.out.symm,hK⟩
end Go.Proofs.YtlbhbocbakijbaaGreat

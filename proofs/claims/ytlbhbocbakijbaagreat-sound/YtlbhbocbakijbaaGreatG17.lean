import Derived.Test.YtlbhbocbakijbaaGreatG16
namespace Go.Proofs.YtlbhbocbakijbaaGreat
open Go.RowKit
set_option maxHeartbeats 0
section
attribute [local go_sem] oP
theorem lD.turned{w w':World}{b:Nat}{H H':Nat->Hd}{h:Hd}{l:List ByteArray}(f:lD w b H h l)(t:ag b w H w' H'):lD w' b H' h l:=by
 refine⟨f.view.keptP t.1 (fun x hx=>?_),fun x hx=>?_⟩
 ·obtain⟨_,h2,h3⟩:=f.far x hx
  rintro (e | e)
  ·exact h2 e
  ·exact h3 e
 ·obtain⟨h1,h2,h3⟩:=f.far x hx
  exact⟨Nat.lt_of_lt_of_le h1 t.1.size,h2,t.fresh x h1 h3⟩
theorem af.reset{w:World}{b t:Nat}{cs:List Value}{rows rows':Nat->eI}{H:Nat->Hd}(h:af w b t cs rows H)(c:Nat)(u:Value)(o:∀i,au w (H i) (rows' i)) :
  af (w.setCell ⟨b,c,none⟩ u) b t (cs.set c u) rows' H/\ag b w H (w.setCell ⟨b,c,none⟩ u) H:=by
 obtain⟨h1,h2⟩:=h.set c u;refine⟨⟨h1.blk,fun i=>(o i).moved (fun k hk=>Below.heap_setCell _ _ _ _ ?_),h.apart,h.off⟩,h2⟩;rintro rfl;exact h.off i hk
theorem mo(w:World)(b:Nat)(H:Nat->Hd):lD w b H ⟨none,0⟩ []:=⟨Or.inl rfl,fun x hx=>by simp[Hd.blk]at hx⟩
set_option maxRecDepth 100000 in
theorem yN(w0 w:World)(b rb ro g tb nn:Nat)(l:List St)(HR K:Nat->Hd)(vs:List ByteArray)(ms:List Bool)(hv hm:Hd)(sh th:List Ex)(H:Nat->Hd)(E:vz w0 rb ro g tb l HR K vs ms hv hm)(P:ir w0 w b rb ro g l.length tb sh th H)
  (hn:nn<l.length) (hA:dW l nn=true) (hth:th.length<=2000000) :
  Calls Tryz.prog 171 #[.pointer (some ⟨b,0,none⟩),.int .i64 nn] w fun e w'=>∃(th':List Ex) (ex:Ex),
   e=.returned (.tuple #[.slice ex.hd.ao ex.xs.length ex.hd.cap,.int .i64 (dx l nn vs ms (th.map Ex.xs)).1])/\ex.xs=(dx l nn vs ms (th.map Ex.xs)).2/\ir w0 w' b rb ro g l.length tb sh th' H/\lD w' b H ex.hd ex.xs /\
   (((dx l nn vs ms (th.map Ex.xs)).1==0)=true->th'=th.take (th.length-(aq l nn).length))/\th'.length<=th.length:=by
 have Ew:=E.still P.kept;have hlen:=E.ok.len;obtain⟨p0,p1,p2⟩:=P.ply.ctx.cells;obtain⟨p3,p4⟩:=P.ply.cells;have hyA:gV l l.length nn=aq l nn:=by unfold gV;rw[if_pos ⟨hn,hA⟩]
 have ca:=Ew.all.cell nn hn;have oa:=Ew.all.own nn hn;rw[hyA]at ca oa;obtain⟨AO,HAO⟩:∃AO,Hid ((K nn).ao=AO):=⟨_,rfl⟩
 rw[HAO.out]at ca;have hhl:(aq l nn).length<=l.length:=jz l nn l.length;have hhlt:∀i (hi:i<(aq l nn).length),(aq l nn)[i]<l.length:=fun i hi=>oY (List.getElem_mem hi)
 have hgn:(nn:Int)<l.length:=by omega
 have hgnn:¬(nn:Int) ≥ l.length:=by omega
 clear hyA p2 p3
 by_cases hu:th.length<(aq l nn).length
 ·have HF:Hid (dx l nn vs ms (th.map Ex.xs)=(6,[])):=by show _=_;unfold dx;rw[List.length_map,if_pos hu]
  have hneg:(th.length:Int)-(aq l nn).length<0:=by omega
  go_enter Tryz.func171,Tryz.ntmps171;go_wp2
  exact bodyPost_ret (v:=.tuple #[.slice none 0 0,.int .i64 6]) (by simp[results,Tryz.results171,go_sem]) rfl
   ⟨th,⟨⟨none,0⟩,[]⟩,by rw[HF.out];rfl,by rw[HF.out],P,mo _ _ _,by rw[HF.out];simp,Nat.le_refl _⟩
 ·obtain⟨f,hf⟩:∃f,th.length-(aq l nn).length=f:=⟨_,rfl⟩
  have hfi:(th.length:Int)-(aq l nn).length=(f:Int):=by omega
  have hf0:¬(f:Int)<0:=by omega
  obtain⟨RR,HRR⟩:∃RR,Hid (RR=cS l (aq l nn) ((th.map Ex.xs).drop f) ([],[])):=⟨_,rfl⟩
  have HF:Hid (dx l nn vs ms (th.map Ex.xs)=j7 l nn vs ms l[nn].symbols RR):=by
   show _=_
   unfold dx;rw[List.length_map,if_neg hu,sr l nn hn,hf,HRR.out]
  rw[hf];have hft:f+(aq l nn).length=th.length:=by omega
  have HFT:=(show Hid _ from hft);clear hf hft;obtain⟨W,hW⟩:∃W,W=w.alloc (.cells #[.slice none 0 0,.slice none 0 0] 247):=⟨_,rfl⟩
  have kW:aa [] w W:=by rw[hW];exact(aa.refl [] _).alloc _
  have SI:GR W w.heap.size [] [] gu:=by
   rw[hW];refine⟨⟨heap_alloc_new _ _,?_,fun i j _=>Or.inl rfl,fun i e=>by simp[gu,Hd.blk]at e⟩,rfl,by simp⟩;intro i
   match i with
   | 0=>exact World.ownsRow_nil _ _ _ _
   | 1=>exact World.ownsRow_nil _ _ _ _
   | m+2=>exact World.ownsRow_nil _ _ _ _
  have HW:=(show Hid _ from hW.symm);clear hW;go_enter Tryz.func171,Tryz.ntmps171
  go_upto_region 8 with fail
  rw[HW.out];have PW:=P.still kW;clear HW p0 p1 p4 ca;go_wp2
  go_loopg [9] (aq l nn).length (fun gk iv wr=>∃(i:Nat) (S:Bg) (be:List Ex) (Hs:Nat->Hd),i<=(aq l nn).length/\gk=(aq l nn).length-i/\iv=.int .i64 i/\Bh S i/\be.map Ex.xs=S.2/\Hid (RR=cS l ((aq l nn).drop i) (((th.map Ex.xs).drop f).drop i) S)/\GR wr w.heap.size S.1 be Hs/\(∀x,cK Hs x->w.heap.size<=x)/\(∀e∈be,e.hd.blk≠some b)/\aa [] w wr)
  case atStart=>exact⟨0,([],[]),[],gu,by omega,by omega,rfl,⟨by simp,by simp⟩,rfl,HRR.out,SI,fun x hx=>by obtain⟨i,hi⟩:=hx;simp[gu,Hd.blk]at hi,by simp,kW⟩
  case round =>
   obtain⟨i,S,be,Hs,hi,hg,rfl,hSo,hbe,hR,hS,hNs,hbn,hK⟩:=hrel
   by_cases hlt:i<(aq l nn).length
   ·obtain⟨us,S2⟩:=S
    simp only at hbe;subst hbe;have Pr:=P.still hK;have hfl:f+i<th.length:=by have:=HFT.out;omega
    have oT:au wr (H 1) (cE th):=Pr.ply.bag.own 1
    rcases oT.ways with ⟨_,h0,_⟩ | ⟨gt,curt,et,-,et3,-⟩
    ·have:th.length=0:=h0
     omega
    have oH:au wr (K nn) (aP (aq l nn)):=oa.moved (fun x hx=>hK.block x (oa.lt hx) (by simp))
    rcases oH.ways with ⟨_,h0,_⟩ | ⟨gh,curh,eh,-,eh3,-⟩
    ·have:(aq l nn).length=0:=h0
     omega
    have ch:=oH.cell eh i (.int .i64 (aq l nn)[i]) (fM _ i hlt);have ct:=oT.cell et (f+i) (od th[f+i]) (mm th (f+i) hfl);obtain rfl:AO=some ⟨gh,0,none⟩:=HAO.out.symm.trans eh;have hcpt:th.length<=(H 1).cap:=et3;have hcph:(aq l nn).length<=(K nn).cap:=eh3;have hfar:=(P.ply.ths th[f+i] (List.getElem_mem hfl));have hhx:=hhlt i hlt;have HFA:=(show Hid _ from hR.out.trans (za l (aq l nn) ((th.map Ex.xs).drop f) (us,be.map Ex.xs) i hlt (by simp;omega) hhx));have e1:((th.map Ex.xs).drop f)[i]'(by simp;omega)=th[f+i].xs:=by simp
    rw[e1]at HFA;have FOK:=DU l[(aq l nn)[i]] th[f+i].xs (us,be.map Ex.xs) i hSo (by omega);have FT:=fun(w3:World) (k3:aa [] wr w3)=>DV w.heap.size us be Hs l[(aq l nn)[i]] (HR (10+2*(aq l nn)[i])) (HR (11+2*(aq l nn)[i])) th[f+i].hd th[f+i].xs w3 (hS.still k3) (by have:=hSo.one;simp only at this;omega) (fun e he=>hSo.two _ (List.mem_map_of_mem he)) ((((E.still (Pr.kept.trans k3)).recd.sts.syms _ l[(aq l nn)[i]] (List.getElem?_eq_getElem hhx)).view)) (E.ok.syms _ hhx) ⟨(hfar.1.still (hK.trans k3)).view,fun x hx=>⟨Nat.lt_of_lt_of_le (hfar.1.far x hx).1 (hK.trans k3).size,by have:=(hfar.1.far x hx).1;omega,fun hm=>by have:=hNs x hm;have:=(hfar.1.far x hx).1;omega⟩⟩ (by omega)
    have ST:=fun(w3:World) (k3:aa [] wr w3)=>aI rb ro (aq l nn)[i] l HR w3 (E.still (Pr.kept.trans k3)).recd hhx
    have p4:=Pr.ply.cells.2;have p0:=Pr.ply.ctx.cells.1;rw[et]at p4
    have HPC:Hid (∀w',aa [] w w'->w'.cell? ⟨b,0,none⟩=some (.pointer (some ⟨rb,ro,none⟩))/\w'.cell? ⟨gh,i,none⟩=some (.int .i64 (aq l nn)[i])/\w'.cell? ⟨b,4,none⟩=some (.slice (some ⟨gt,0,none⟩) th.length (H 1).cap)/\w'.cell? ⟨gt,f+i,none⟩=some (od th[f+i])):=by
     intro w' k;have P':=P.still k;refine⟨P'.ply.ctx.cells.1,(oa.moved (fun x hx=>k.block x (oa.lt hx) (by simp))).cell eh i _ (fM _ i hlt),?_,(P'.ply.bag.own 1).cell et (f+i) (od th[f+i]) (mm th (f+i) hfl)⟩;rw[<-et];exact P'.ply.cells.2
    have HP9:Hid (∀x,(x=w.heap.size∨cK Hs x)->w.heap.size<=x):=by
     rintro x (e | e)
     ·omega
     ·exact hNs x e
    have HFT2:=(show Hid _ from FT);have HST:=(show Hid _ from ST);have hwrp:IntKind.i64.wrap ((f:Int)+i)=(f:Int)+i:=by rw[IntKind.wrap_i64];omega
    have hfi0:(0:Int)<=(f:Int)+i:=by omega
    have hfi1:(f:Int)+i<th.length:=by omega
    have hti:((f:Int)+i).toNat=f+i:=by omega
    have hfar2:=hfar.1.far;clear FT ST hR e1 oT oH hfar et eh;unfold od at ct HPC;generalize th[f+i]=ex at *;generalize (aq l nn)[i]=hn1 at *;generalize fw l[hn1] ex.xs (us,be.map Ex.xs)=Q at *;obtain⟨q,S9⟩:=Q;simp only at HFA FOK HFT2;have hfb:ex.hd.blk≠some b:=fun e=>(hfar2 b e).2.1 rfl
    cases hq:(q==0)
    ·have hq':(q != 0)=true:=by simp[bne,hq]
     have HN:Hid (dx l nn vs ms (th.map Ex.xs)=(q,[])):=by show _=_;rw[HF.out,HFA.out,if_neg (by rw[hq];simp)];simp[j7,hq]
     clear HFA
     go_upto_region 11 with fail
     go_region_held3 (fun w'=>w'.cell? ⟨b,0,none⟩=some (.pointer (some ⟨rb,ro,none⟩))/\w'.cell? ⟨gh,i,none⟩=some (.int .i64 hn1)/\w'.cell? ⟨b,4,none⟩=some (.slice (some ⟨gt,0,none⟩) th.length (H 1).cap)/\w'.cell? ⟨gt,f+i,none⟩=some (.slice ex.hd.ao ex.xs.length ex.hd.cap)) (go_keep) (first | (go_at_call 87;refine(HST.out _ (by exact(aa.refl [] _).drew)).mono ?_;rintro e w3 ⟨rfl,k3⟩;obtain⟨x0,x1,x2,x3⟩:=HPC.out w3 (hK.drew.trans k3)) | (go_at_call 185;refine(HFT2.out _ (by exact(aa.refl [] _).drew.trans k3)).mono ?_;rintro e w9 ⟨be9,H9,rfl,SI9,hbe9,T9,hmem9⟩;have K9:=(hK.drew.trans k3).ofP T9.1 HP9.out;obtain⟨z0,z1,z2,z3⟩:=HPC.out w9 K9))
     all_goals
      clear z0 z1 z2 z3 x0 x1 x2 x3;go_wp2
      exact bodyPost_ret (v:=.tuple #[.slice none 0 0,.int .i64 q]) (by simp[results,Tryz.results171,go_sem]) rfl
       ⟨th,⟨⟨none,0⟩,[]⟩,by rw[HN.out];rfl,by rw[HN.out],P.still K9,mo _ _ _,fun hh=>by rw[HN.out]at hh;exact absurd (hq.symm.trans hh) (by simp),Nat.le_refl _⟩
    ·have hq':(q != 0)=false:=by simp[bne,hq]
     have HN:Hid (RR=cS l ((aq l nn).drop (i+1)) (((th.map Ex.xs).drop f).drop (i+1)) S9):=by show _=_;rw[HFA.out,if_pos hq]
     clear HFA
     go_upto_region 11 with fail
     go_region_held3 (fun w'=>w'.cell? ⟨b,0,none⟩=some (.pointer (some ⟨rb,ro,none⟩))/\w'.cell? ⟨gh,i,none⟩=some (.int .i64 hn1)/\w'.cell? ⟨b,4,none⟩=some (.slice (some ⟨gt,0,none⟩) th.length (H 1).cap)/\w'.cell? ⟨gt,f+i,none⟩=some (.slice ex.hd.ao ex.xs.length ex.hd.cap)) (go_keep) (first | (go_at_call 87;refine(HST.out _ (by exact(aa.refl [] _).drew)).mono ?_;rintro e w3 ⟨rfl,k3⟩;obtain⟨x0,x1,x2,x3⟩:=HPC.out w3 (hK.drew.trans k3)) | (go_at_call 185;refine(HFT2.out _ (by exact(aa.refl [] _).drew.trans k3)).mono ?_;rintro e w9 ⟨be9,H9,rfl,SI9,hbe9,T9,hmem9⟩;have K9:=(hK.drew.trans k3).ofP T9.1 HP9.out;obtain⟨z0,z1,z2,z3⟩:=HPC.out w9 K9))
     all_goals
      have hN9:∀x,cK H9 x->w.heap.size<=x:=fun x hx=>by
       rcases T9.2 x hx with e | e
       ·exact hNs x e
       ·exact Nat.le_trans (hK.drew.trans k3).size e
      have hb9:∀e∈be9,e.hd.blk≠some b:=fun e he=>by
       rcases hmem9 e he with q | q
       ·exact hbn e q
       ·rw[q];exact hfb
      clear z0 z1 z2 z3 x0 x1 x2 x3;go_wp2
      go_roundg ((aq l nn).length-(i+1))
      case measure=>omega
      case rel=>exact⟨i+1,S9,be9,H9,by omega,rfl,by go_num,FOK,hbe9,HN.out,SI9,hN9,hb9,K9⟩
   ·obtain⟨us,S2⟩:=S
    simp only at hbe;subst hbe
    have HFE:Hid (dx l nn vs ms (th.map Ex.xs)=j7 l nn vs ms l[nn].symbols (0,(us,be.map Ex.xs))):=by
     show _=_
     rw[HF.out,hR.out,vS _ _ _ _ _ hlt]
    have Pr:=P.still hK;have Er:=E.still Pr.kept;have hul:=hSo.one;simp only at hul;have KA:=pd b rb ro g l.length tb nn w.heap.size l HR vs ms hv hm us be Hs wr Pr.ply.ctx Er.ap E.hml E.hvl Er.recd E.ok hS (by omega) (fun e he=>hSo.two _ (List.mem_map_of_mem he));clear hR
    cases hk:lw l nn (us,be.map Ex.xs) vs ms
    ·have HN:Hid (dx l nn vs ms (th.map Ex.xs)=(9,[])):=by show _=_;rw[HFE.out];simp[j7,hk]
     rw[hk]at KA;clear HFE
     go_upto_region 15 with (go_at_call 186;refine KA.mono ?_;rintro e w2 ⟨rfl,k2⟩)
     go_wp2
     exact bodyPost_ret (v:=.tuple #[.slice none 0 0,.int .i64 9]) (by simp[results,Tryz.results171,go_sem]) rfl
      ⟨th,⟨⟨none,0⟩,[]⟩,by rw[HN.out];rfl,by rw[HN.out],Pr.still k2,mo _ _ _,by rw[HN.out];simp,Nat.le_refl _⟩
    ·have HN:Hid (dx l nn vs ms (th.map Ex.xs)=(0,gA us (be.map Ex.xs) l[nn].symbols)):=by show _=_;rw[HFE.out];simp[j7,hk]
     rw[hk]at KA;clear HFE
     go_upto_region 16 with (go_at_call 186;refine KA.mono ?_;rintro e w2 ⟨rfl,k2⟩)
     have P2:=Pr.still k2;have S2':=hS.still k2;have p4:=P2.ply.cells.2;have y4:=P2.ply.bag.free;have hb2:=P2.ply.bag.lt;have oT:au w2 (H 1) (cE th):=P2.ply.bag.own 1;have hfth:f<=th.length:=by have:=HFT.out;omega
     have hfi2:(f:Int)<=th.length:=by omega
     have hPb:w.heap.size > b:=P.ply.bag.lt
     have GO:∀V,V=Value.slice (H 1).ao (th.take f).length (H 1).cap->∃X,X=w2.setCell ⟨b,4,none⟩ V/\aa [] w0 X/\ir w0 X b rb ro g l.length tb sh (th.take f) H/\GR X w.heap.size us be Hs:=by
      rintro V rfl
      obtain⟨D,D2⟩:=P2.ply.bag.reset (rows':=mL sh (th.take f)) 4 (.slice (H 1).ao (th.take f).length (H 1).cap) (by
       intro j
       match j with
       | 0=>exact P2.ply.bag.own 0
       | 1=>exact oT.cutE f hfth
       | m+2=>exact P2.ply.bag.own (m+2))
      have kX:=P2.kept.setCell (p:=⟨b,4,none⟩) (Or.inr P.hb) (.slice (H 1).ao (th.take f).length (H 1).cap);have kb:=(dw.refl (fun x=>x=b) w2).setCell (p:=⟨b,4,none⟩) (Or.inl rfl) (.slice (H 1).ao (th.take f).length (H 1).cap);exact⟨_,rfl,kX,⟨⟨D,fun e he=>⟨(P2.ply.shs e he).1.turned D2,(P2.ply.shs e he).2⟩,fun e he=>⟨(P2.ply.ths e (List.mem_of_mem_take he)).1.turned D2,(P2.ply.ths e (List.mem_of_mem_take he)).2⟩⟩,kX,P.hb,P.hin⟩,⟨S2'.bag.keptP kb (by omega) (fun x hx=>by have:=hNs x hx;omega),S2'.len,fun e he=>⟨(S2'.exs e he).view.keptP kb (fun x hx e2=>hbn e he (e2 ▸ hx)),(S2'.exs e he).adr,fun x hx=>⟨Nat.lt_of_lt_of_le ((S2'.exs e he).far x hx).1 kb.size,((S2'.exs e he).far x hx).2⟩⟩⟩⟩
     have GO:=(show Hid _ from GO)
     rcases oT.ways with ⟨e0,h0,-⟩ | ⟨gt,curt,et,-,et3,-⟩
     focus
      have h0':th.length=0:=h0;have hf00:f=0:=by omega
      have HQX:Hid (Value.slice none 0 0=Value.slice (H 1).ao (th.take f).length (H 1).cap):=by show _=_;rw[e0,hf00];rfl
      have HH1:=(show Hid _ from e0);rw[e0,h0']at p4;have hfz:(f:Int)=0:=by omega
      clear e0 h0 h0'
      go_upto_region 17 with fail
      obtain⟨X,hX,kX,PX,SX⟩:=GO.out _ HQX.out;rw[<-hX]
     rotate_left
     focus
      have HQX:Hid (Value.slice (some ⟨gt,0,none⟩) f (H 1).cap=Value.slice (H 1).ao (th.take f).length (H 1).cap):=by show _=_;rw[et];simp;omega
      have hcpt:th.length<=(H 1).cap:=et3;have hfc:(f:Int)<=(H 1).cap:=by omega
      rw[et]at p4;clear et
      go_upto_region 17 with fail
      obtain⟨X,hX,kX,PX,SX⟩:=GO.out _ HQX.out;rw[<-hX]
     all_goals
      have p0:=PX.ply.ctx.cells.1;have hbX:=PX.ply.bag.lt;have hin2:=fun x (hx:cK H x)=>PX.ply.bag.inlt hx
      have hsyl:=E.ok.syms nn hn;have EX:=E.still kX;clear hX p4 y4 KA GO;go_wp2_with (first | (go_at_call 87;refine(aI rb ro nn l HR _ (by exact EX.recd) hn).mono ?_;rintro e w6 ⟨rfl,k6⟩;unfold cQ) | (go_at_call 187;refine(nR w.heap.size us be Hs (HR (10+2*nn)) l[nn].symbols _ (by exact SX.still k6) (by omega) (fun e he=>hSo.two _ (List.mem_map_of_mem he)) (((EX.still k6).recd.sts.syms nn l[nn] (List.getElem?_eq_getElem hn)).view) (by omega)).mono ?_;rintro e w7 ⟨hd,rfl,o7,n7,k7⟩));have k6s:=k6.size
      exact bodyPost_ret (v:=.tuple #[.slice hd.ao (gA us (be.map Ex.xs) l[nn].symbols).length hd.cap,.int .i64 0]) (by simp[results,Tryz.results171,go_sem]) rfl
       ⟨th.take f,⟨hd,gA us (be.map Ex.xs) l[nn].symbols⟩,by rw[HN.out],by rw[HN.out],PX.still (k6.trans k7),⟨o7.view,fun x hx=>⟨o7.lt hx,by have:=n7 x hx;omega,fun hm=>by have:=n7 x hx;have:=hin2 x hm;omega⟩⟩,fun _=>rfl,by simp;omega⟩
end
def dr(l:List St)(vs:List ByteArray)(ms:List Bool)(sh th:List (List ByteArray))(s:fk):(Int×List ByteArray)×List (List ByteArray) :=
 if(s.kind==3)=true then(if s.number<sh.length then((0,sh.getD s.number []),th) else((5,[]),th))
 else if dW l s.number=true then(dx l s.number vs ms th,th.take (th.length-(aq l s.number).length))
 else((0,(l.getD s.number dD).symbols),th)
set_option maxRecDepth 100000 in
theorem CX(w0 w:World)(b rb ro g tb:Nat)(s:fk)(l:List St)(HR K:Nat->Hd)(vs:List ByteArray)(ms:List Bool)(hv hm:Hd)(sh th:List Ex)(H:Nat->Hd)(E:vz w0 rb ro g tb l HR K vs ms hv hm)(P:ir w0 w b rb ro g l.length tb sh th H)
  (hn:(s.kind==3)=false->s.number<l.length) (hsn:s.number<=2000000) (hth:th.length<=2000000) :
  Calls Tryz.prog 152 #[.pointer (some ⟨b,0,none⟩),.agg #[.int .i64 s.kind,.int .i64 s.number,.string s.at_.file,.int .i64 s.at_.line,.int .i64 s.at_.col]] w fun e w'=>∃(th':List Ex) (ex:Ex),
   e=.returned (.tuple #[.slice ex.hd.ao ex.xs.length ex.hd.cap,.int .i64 (dr l vs ms (sh.map Ex.xs) (th.map Ex.xs) s).1.1])/\ex.xs=(dr l vs ms (sh.map Ex.xs) (th.map Ex.xs) s).1.2/\ir w0 w' b rb ro g l.length tb sh th' H/\lD w' b H ex.hd ex.xs /\
   (((dr l vs ms (sh.map Ex.xs) (th.map Ex.xs) s).1.1==0)=true->th'.map Ex.xs=(dr l vs ms (sh.map Ex.xs) (th.map Ex.xs) s).2)/\th'.length<=th.length:=by
 obtain⟨W,hW⟩:∃W,W=w.alloc (.cells #[.int .i64 s.kind,.int .i64 s.number,.string s.at_.file,.int .i64 s.at_.line,.int .i64 s.at_.col] 176):=⟨_,rfl⟩
 have kW:aa [] w W:=by rw[hW];exact(aa.refl [] _).alloc _
 have B:W.heap[w.heap.size]?=some (.cells #[.int .i64 s.kind,.int .i64 s.number,.string s.at_.file,.int .i64 s.at_.line,.int .i64 s.at_.col] 176 (0,0)):=by rw[hW];exact heap_alloc_new _ _
 have HW:=(show Hid _ from hW.symm);have u0:W.cell? ⟨w.heap.size,0,none⟩=some (.int .i64 s.kind):=by rw[ab B];rfl
 have u1:W.cell? ⟨w.heap.size,1,none⟩=some (.int .i64 s.number):=by rw[ab B];rfl
 have PW:=P.still kW;have EW:=E.still PW.kept;obtain⟨p0,p1,p2⟩:=PW.ply.ctx.cells;obtain⟨p3,p4⟩:=PW.ply.cells;have hbW:=PW.ply.bag.lt;have hwW:=ac B;clear hW
 cases hk:(s.kind==3)
 ·have hn':=hn hk
  have HS:Hid (dr l vs ms (sh.map Ex.xs) (th.map Ex.xs) s=if dW l s.number=true then(dx l s.number vs ms (th.map Ex.xs),(th.map Ex.xs).take (th.length-(aq l s.number).length)) else((0,l[s.number].symbols),th.map Ex.xs)):=by
   show _=_
   unfold dr;rw[hk,List.length_map,List.length_map,sr l _ hn'];rfl
  have HC:Hid (∀w',aa [] W w'->w'.cell? ⟨b,0,none⟩=some (.pointer (some ⟨rb,ro,none⟩))/\w'.cell? ⟨w.heap.size,1,none⟩=some (.int .i64 s.number)):=by
   intro w' k;refine⟨(PW.still k).ply.ctx.cells.1,?_⟩;rw[ab (k.get B (by simp))];rfl
  have HST:=(show Hid _ from fun(w3:World) (k3:aa [] W w3)=>aI rb ro s.number l HR w3 (EW.still k3).recd hn')
  have HZ:Hid (∀w3,aa [] (W.alloc (.cells #[.int .i64 0,.string ⟨#[]⟩,.slice none 0 0,.slice none 0 0,.string ⟨#[]⟩,.int .i64 0,.int .i64 0,.int .i64 0] 144)).drew w3->w3.cell? ⟨W.heap.size,0,none⟩=some (.int .i64 0)/\w3.cell? ⟨W.heap.size,1,none⟩=some (.string ⟨#[]⟩)/\w3.cell? ⟨W.heap.size,2,none⟩=some (.slice none 0 0)/\w3.cell? ⟨W.heap.size,3,none⟩=some (.slice none 0 0)/\w3.cell? ⟨W.heap.size,4,none⟩=some (.string ⟨#[]⟩)/\w3.cell? ⟨W.heap.size,5,none⟩=some (.int .i64 0)/\w3.cell? ⟨W.heap.size,6,none⟩=some (.int .i64 0)/\w3.cell? ⟨W.heap.size,7,none⟩=some (.int .i64 0)/\∀n,w3.frozen? ⟨W.heap.size,n,none⟩=false):=by
   intro w3 k;have q:=k.get (show(W.alloc (.cells #[.int .i64 0,.string ⟨#[]⟩,.slice none 0 0,.slice none 0 0,.string ⟨#[]⟩,.int .i64 0,.int .i64 0,.int .i64 0] 144)).drew.heap[W.heap.size]?=_ from heap_alloc_new _ _) (by simp);refine⟨?_,?_,?_,?_,?_,?_,?_,?_,fun n=>an q n⟩ <;> (rw[ab q];rfl)
  have hne1:W.heap.size≠b:=by omega
  have hne2:b≠W.heap.size:=by omega
  have hne3:W.heap.size≠w.heap.size:=by omega
  have hne4:w.heap.size≠W.heap.size:=by omega
  clear p1 p2 p3 p4;go_enter Tryz.func152,Tryz.ntmps152
  go_upto_region 1 with fail
  rw[HW.out]
  go_upto_region 5 with fail
  go_region_held3 (fun w'=>w'.cell? ⟨b,0,none⟩=some (.pointer (some ⟨rb,ro,none⟩))/\w'.cell? ⟨w.heap.size,1,none⟩=some (.int .i64 s.number)) (go_keep) (first | (go_at_call 87;refine(HST.out _ (by exact(aa.refl [] W).drew)).mono ?_;rintro e w3 ⟨rfl,k3⟩;obtain⟨x0,x1⟩:=HC.out w3 ((aa.refl [] _).drew.trans k3);unfold cQ) | (go_at_call 87;refine(HST.out _ (by exact((aa.refl [] W).alloc _).drew)).mono ?_;rintro e w3 ⟨rfl,k3⟩;obtain⟨x0,x1⟩:=HC.out w3 (((aa.refl [] W).alloc _).drew.trans k3);obtain⟨q0,q1,q2,q3,q4,q5,q6,q7,qf⟩:=HZ.out w3 k3;unfold cQ))
  focus
   obtain⟨X,hX⟩:∃X,X=w3.alloc (.cells #[.int .i64 l[s.number].kind,.string l[s.number].label,.slice (HR (10+2*s.number)).ao l[s.number].symbols.length (HR (10+2*s.number)).cap,.slice (HR (11+2*s.number)).ao l[s.number].proof.length (HR (11+2*s.number)).cap,.string l[s.number].fin.file,.int .i64 l[s.number].fin.line,.int .i64 l[s.number].fin.col,.int .i64 l[s.number].til] 144):=⟨_,rfl⟩
   have kX:aa [] W X:=by rw[hX];exact((aa.refl [] _).drew.trans k3).alloc _
   have BX:X.heap[w3.heap.size]?=some (.cells #[.int .i64 l[s.number].kind,.string l[s.number].label,.slice (HR (10+2*s.number)).ao l[s.number].symbols.length (HR (10+2*s.number)).cap,.slice (HR (11+2*s.number)).ao l[s.number].proof.length (HR (11+2*s.number)).cap,.string l[s.number].fin.file,.int .i64 l[s.number].fin.line,.int .i64 l[s.number].fin.col,.int .i64 l[s.number].til] 144 (0,0)):=by rw[hX];exact heap_alloc_new _ _
   rw[<-hX];clear hX x0 x1 u0 u1 p0;generalize w3.heap.size=xa at BX ⊢
  rotate_left
  focus
   obtain⟨X,hX⟩:∃X,X=(((((((w3.setCell ⟨W.heap.size,0,none⟩ (.int .i64 l[s.number].kind)).setCell ⟨W.heap.size,1,none⟩ (.string l[s.number].label)).setCell ⟨W.heap.size,2,none⟩ (.slice (HR (10+2*s.number)).ao l[s.number].symbols.length (HR (10+2*s.number)).cap)).setCell ⟨W.heap.size,3,none⟩ (.slice (HR (11+2*s.number)).ao l[s.number].proof.length (HR (11+2*s.number)).cap)).setCell ⟨W.heap.size,4,none⟩ (.string l[s.number].fin.file)).setCell ⟨W.heap.size,5,none⟩ (.int .i64 l[s.number].fin.line)).setCell ⟨W.heap.size,6,none⟩ (.int .i64 l[s.number].fin.col)).setCell ⟨W.heap.size,7,none⟩ (.int .i64 l[s.number].til):=⟨_,rfl⟩
   have k3':=(((aa.refl [] W).alloc _).drew.trans k3);have q3':=k3.get (show(W.alloc (.cells #[.int .i64 0,.string ⟨#[]⟩,.slice none 0 0,.slice none 0 0,.string ⟨#[]⟩,.int .i64 0,.int .i64 0,.int .i64 0] 144)).drew.heap[W.heap.size]?=_ from heap_alloc_new _ _) (by simp);have kX:aa [] W X:=by rw[hX];exact(((((((k3'.setCell (Or.inr (Nat.le_refl _)) _).setCell (Or.inr (Nat.le_refl _)) _).setCell (Or.inr (Nat.le_refl _)) _).setCell (Or.inr (Nat.le_refl _)) _).setCell (Or.inr (Nat.le_refl _)) _).setCell (Or.inr (Nat.le_refl _)) _).setCell (Or.inr (Nat.le_refl _)) _).setCell (Or.inr (Nat.le_refl _)) _
   have BX:X.heap[W.heap.size]?=some (.cells #[.int .i64 l[s.number].kind,.string l[s.number].label,.slice (HR (10+2*s.number)).ao l[s.number].symbols.length (HR (10+2*s.number)).cap,.slice (HR (11+2*s.number)).ao l[s.number].proof.length (HR (11+2*s.number)).cap,.string l[s.number].fin.file,.int .i64 l[s.number].fin.line,.int .i64 l[s.number].fin.col,.int .i64 l[s.number].til] 144 (0,0)):=by
    rw[hX,ae (ae (ae (ae (ae (ae (ae (ae q3' _ _) _ _) _ _) _ _) _ _) _ _) _ _)];rfl
   rw[<-hX];clear hX x0 x1 u0 u1 p0 q0 q1 q2 q3 q4 q5 q6 q7 qf k3' q3';generalize W.heap.size=xa at BX ⊢
  all_goals
   have m0:X.cell? ⟨xa,0,none⟩=some (.int .i64 l[s.number].kind):=by rw[ab BX];rfl
   have m1:X.cell? ⟨xa,1,none⟩=some (.string l[s.number].label):=by rw[ab BX];rfl
   have m2:X.cell? ⟨xa,2,none⟩=some (.slice (HR (10+2*s.number)).ao l[s.number].symbols.length (HR (10+2*s.number)).cap):=by rw[ab BX];rfl
   have m3:X.cell? ⟨xa,3,none⟩=some (.slice (HR (11+2*s.number)).ao l[s.number].proof.length (HR (11+2*s.number)).cap):=by rw[ab BX];rfl
   have m4:X.cell? ⟨xa,4,none⟩=some (.string l[s.number].fin.file):=by rw[ab BX];rfl
   have m5:X.cell? ⟨xa,5,none⟩=some (.int .i64 l[s.number].fin.line):=by rw[ab BX];rfl
   have m6:X.cell? ⟨xa,6,none⟩=some (.int .i64 l[s.number].fin.col):=by rw[ab BX];rfl
   have m7:X.cell? ⟨xa,7,none⟩=some (.int .i64 l[s.number].til):=by rw[ab BX];rfl
   have PX:=PW.still kX;have hsX:=ac BX;obtain⟨x0,x1⟩:=HC.out X kX;have HIA:=(show Hid _ from yd l s.number hn')
   cases hia:jt l[s.number].kind
   ·have HF:Hid (dr l vs ms (sh.map Ex.xs) (th.map Ex.xs) s=((0,l[s.number].symbols),th.map Ex.xs)):=by show _=_;rw[HS.out,HIA.out,hia];rfl
    clear HS HIA
    go_upto_region 8 with (go_at_call 108;refine(cC l[s.number].kind _ _ _ _ _ _ _ _).mono ?_;rintro e w5 ⟨rfl,k5⟩;have BX5:=k5.get BX (by simp))
    have m2':w5.cell? ⟨xa,2,none⟩=some (.slice (HR (10+2*s.number)).ao l[s.number].symbols.length (HR (10+2*s.number)).cap):=by rw[ab BX5];rfl
    have o0:=E.recd.sts.syms s.number l[s.number] (List.getElem?_eq_getElem hn');have kk:=(kX.trans k5);have P5:=PW.still kk;clear m0 m1 m2 m3 m4 m5 m6 m7;go_wp2
    exact bodyPost_ret (v:=.tuple #[.slice (HR (10+2*s.number)).ao l[s.number].symbols.length (HR (10+2*s.number)).cap,.int .i64 0]) (by simp[results,Tryz.results152,go_sem]) rfl
     ⟨th,⟨HR (10+2*s.number),l[s.number].symbols⟩,by rw[HF.out],by rw[HF.out],P5,⟨o0.view.still P5.kept,fun x hx=>⟨Nat.lt_of_lt_of_le (o0.lt hx) P5.kept.size,by have:=o0.lt hx;have:=P.hb;omega,fun hm=>by have:=P.hin x hm;have:=o0.lt hx;omega⟩⟩,fun _=>by rw[HF.out],Nat.le_refl _⟩
   ·have HF:Hid (dr l vs ms (sh.map Ex.xs) (th.map Ex.xs) s=(dx l s.number vs ms (th.map Ex.xs),(th.map Ex.xs).take (th.length-(aq l s.number).length))):=by show _=_;rw[HS.out,HIA.out,hia];rfl
    have hAt:dW l s.number=true:=by rw[HIA.out,hia]
    clear HS HIA
    go_upto_region 7 with (go_at_call 108;refine(cC l[s.number].kind _ _ _ _ _ _ _ _).mono ?_;rintro e w5 ⟨rfl,k5⟩)
    obtain⟨y0,y1⟩:=HC.out w5 (kX.trans k5);have P5:=PX.still k5;clear m0 m1 m2 m3 m4 m5 m6 m7;go_wp2_with fail;refine(yN w0 w5 b rb ro g tb s.number l HR K vs ms hv hm sh th H E P5 hn' hAt hth).mono ?_;rintro e w6 ⟨th6,ex6,rfl,hx6,P6,F6,hq6,hl6⟩;have HX6:=(show Hid _ from hx6);clear hx6;go_wp2
    exact bodyPost_ret (v:=.tuple #[.slice ex6.hd.ao ex6.xs.length ex6.hd.cap,.int .i64 (dx l s.number vs ms (th.map Ex.xs)).1]) (by simp[results,Tryz.results152,go_sem]) rfl
     ⟨th6,ex6,by rw[HF.out],by rw[HF.out];exact HX6.out,P6,F6,fun hh=>by rw[HF.out]at hh ⊢;rw[hq6 hh,List.map_take],hl6⟩
 ·have hd0:decide ((s.number:Int)<0)=false:=by simp
  by_cases hlt:s.number<sh.length
  ·have HF:Hid (dr l vs ms (sh.map Ex.xs) (th.map Ex.xs) s=((0,sh[s.number].xs),th.map Ex.xs)):=by
    show _=_
    unfold dr;rw[hk,if_pos rfl,List.length_map,if_pos hlt,List.getD_eq_getElem?_getD];simp[hlt]
   have hd1:decide ((s.number:Int) ≥ sh.length)=false:=by simp;omega
   have hlti:(s.number:Int)<sh.length:=by omega
   have oS:au W (H 0) (cE sh):=PW.ply.bag.own 0
   rcases oS.ways with ⟨_,h0,_⟩ | ⟨gs,curs,es,-,es3,-⟩
   ·have:sh.length=0:=h0
    omega
   have cs:=oS.cell es s.number (od sh[s.number]) (mm sh s.number hlt);have hcp:sh.length<=(H 0).cap:=es3;have hfar:=(PW.ply.shs sh[s.number] (List.getElem_mem hlt)).1;rw[es]at p3;unfold od at cs;generalize sh[s.number]=ex at *;clear p0 p1 p2 p4 oS es;go_enter Tryz.func152,Tryz.ntmps152
   go_upto_region 1 with fail
   rw[HW.out]
   go_upto_region 2 with fail
   go_quiet (fail)
   go_upto_region 4 with fail
   go_quiet (fail)
   go_wp2
   exact bodyPost_ret (v:=.tuple #[.slice ex.hd.ao ex.xs.length ex.hd.cap,.int .i64 0]) (by simp[results,Tryz.results152,go_sem]) rfl
    ⟨th,ex,by rw[HF.out],by rw[HF.out],PW.still (((aa.refl [] _).drewN _).drewN _),hfar.still (((aa.refl [] _).drewN _).drewN _),fun _=>by rw[HF.out],Nat.le_refl _⟩
  ·have HF:Hid (dr l vs ms (sh.map Ex.xs) (th.map Ex.xs) s=((5,[]),th.map Ex.xs)):=by
    show _=_
    unfold dr;rw[hk,if_pos rfl,List.length_map,if_neg hlt]
   have hd1:decide ((s.number:Int) ≥ sh.length)=true:=by simp;omega
   clear p0 p1 p2 p4;go_enter Tryz.func152,Tryz.ntmps152
   go_upto_region 1 with fail
   rw[HW.out]
   go_upto_region 2 with fail
   go_quiet (fail)
   go_wp2
   exact bodyPost_ret (v:=.tuple #[.slice none 0 0,.int .i64 5]) (by simp[results,Tryz.results152,go_sem]) rfl
    ⟨th,⟨⟨none,0⟩,[]⟩,by rw[HF.out];rfl,by rw[HF.out],PW.still ((aa.refl [] _).drewN _),mo _ _ _,by rw[HF.out];simp,Nat.le_refl _⟩
def fn(l:List St)(vs:List ByteArray)(ms:List Bool)(S:List (List ByteArray)×List (List ByteArray))(s:fk):Int×List (List ByteArray)×List (List ByteArray) :=
 if((dr l vs ms S.1 S.2 s).1.1==0)=true then
  (if(dr l vs ms S.1 S.2 s).1.2.length<=32 then(0,S.1++[(dr l vs ms S.1 S.2 s).1.2],(dr l vs ms S.1 S.2 s).2++[(dr l vs ms S.1 S.2 s).1.2]) else(10,S))
 else((dr l vs ms S.1 S.2 s).1.1,S)
theorem ir.turned{w0 w w':World}{b rb ro g n tb:Nat}{sh th sh' th':List Ex}{H H':Nat->Hd}(h:ir w0 w b rb ro g n tb sh th H)(t:ag b w H w' H')(bag:af w' b 213 (jF rb ro g n tb sh' th' H') (mL sh' th') H')
  (hs:∀e∈sh',lD w b H e.hd e.xs/\e.xs.length<=32) (ht:∀e∈th',lD w b H e.hd e.xs/\e.xs.length<=32):ir w0 w' b rb ro g n tb sh' th' H':=by
 refine⟨⟨bag,fun e he=>⟨(hs e he).1.turned t,(hs e he).2⟩,fun e he=>⟨(ht e he).1.turned t,(ht e he).2⟩⟩,h.kept.ofP t.1 ?_,h.hb,fun x hx=>?_⟩
 ·rintro x (e | e)
  ·have:=h.hb;omega
  ·exact h.hin x e
 ·rcases t.2 x hx with e | e
  ·exact h.hin x e
  ·exact Nat.le_trans h.kept.size e
set_option maxRecDepth 100000 in
theorem Cx(w0 w:World)(b rb ro g tb:Nat)(s:fk)(l:List St)(HR K:Nat->Hd)(vs:List ByteArray)(ms:List Bool)(hv hm:Hd)(sh th:List Ex)(H:Nat->Hd)(E:vz w0 rb ro g tb l HR K vs ms hv hm)(P:ir w0 w b rb ro g l.length tb sh th H)
  (hn:(s.kind==3)=false->s.number<l.length) (hsn:s.number<=2000000) (hth:th.length<=2000000) (hsh:sh.length<=2000000) :
  Calls Tryz.prog 129 #[.pointer (some ⟨b,0,none⟩),.agg #[.int .i64 s.kind,.int .i64 s.number,.string s.at_.file,.int .i64 s.at_.line,.int .i64 s.at_.col]] w fun e w'=>∃(sh' th':List Ex) (H':Nat->Hd),
   e=.returned (.int .i64 (fn l vs ms (sh.map Ex.xs,th.map Ex.xs) s).1)/\ir w0 w' b rb ro g l.length tb sh' th' H' /\
   (((fn l vs ms (sh.map Ex.xs,th.map Ex.xs) s).1==0)=true->(sh'.map Ex.xs,th'.map Ex.xs)=(fn l vs ms (sh.map Ex.xs,th.map Ex.xs) s).2)/\th'.length<=th.length+1/\sh'.length<=sh.length+1:=by
 obtain⟨i1,hi1,hy0,hy1,hy2⟩:=info_parts sx;obtain⟨W,hW⟩:∃W,W=w.alloc (.cells #[.int .i64 s.kind,.int .i64 s.number,.string s.at_.file,.int .i64 s.at_.line,.int .i64 s.at_.col] 176):=⟨_,rfl⟩
 have kW:aa [] w W:=by rw[hW];exact(aa.refl [] _).alloc _
 have B:W.heap[w.heap.size]?=some (.cells #[.int .i64 s.kind,.int .i64 s.number,.string s.at_.file,.int .i64 s.at_.line,.int .i64 s.at_.col] 176 (0,0)):=by rw[hW];exact heap_alloc_new _ _
 have HW:=(show Hid _ from hW.symm);have u0:W.cell? ⟨w.heap.size,0,none⟩=some (.int .i64 s.kind):=by rw[ab B];rfl
 have u1:W.cell? ⟨w.heap.size,1,none⟩=some (.int .i64 s.number):=by rw[ab B];rfl
 have u2:W.cell? ⟨w.heap.size,2,none⟩=some (.string s.at_.file):=by rw[ab B];rfl
 have u3:W.cell? ⟨w.heap.size,3,none⟩=some (.int .i64 s.at_.line):=by rw[ab B];rfl
 have u4:W.cell? ⟨w.heap.size,4,none⟩=some (.int .i64 s.at_.col):=by rw[ab B];rfl
 have PW:=P.still kW;have SH:=CX w0 W b rb ro g tb s l HR K vs ms hv hm sh th H E PW hn hsn hth
 have HPF:Hid (∀q,dr l vs ms (sh.map Ex.xs) (th.map Ex.xs) s=q->fn l vs ms (sh.map Ex.xs,th.map Ex.xs) s=if(q.1.1==0)=true then(if q.1.2.length<=32 then(0,sh.map Ex.xs++[q.1.2],q.2++[q.1.2]) else(10,sh.map Ex.xs,th.map Ex.xs)) else(q.1.1,sh.map Ex.xs,th.map Ex.xs)):=by
  intro q hq;subst hq;rfl
 have HP2:=(show Hid _ from HPF.out _ rfl);generalize dr l vs ms (sh.map Ex.xs) (th.map Ex.xs) s=Q at *;obtain⟨⟨q,xs⟩,t2⟩:=Q;simp only at SH HP2;clear hW HPF B;go_enter Tryz.func129,Tryz.ntmps129
 go_upto_region 1 with fail
 rw[HW.out];go_wp2_with fail;refine SH.mono ?_;rintro e w2 ⟨th2,ex,rfl,hx2,P2,F2,hq2,hl2⟩;subst hx2
 cases hq:(q==0)
 ·have hq':(q != 0)=true:=by simp[bne,hq]
  have HF:Hid (fn l vs ms (sh.map Ex.xs,th.map Ex.xs) s=(q,sh.map Ex.xs,th.map Ex.xs)):=by show _=_;rw[HP2.out,hq];rfl
  clear HP2 SH u0 u1 u2 u3 u4;go_wp2;go_ret;exact⟨sh,th2,H,ar (by rw[HF.out]),P2,fun hh=>by rw[HF.out]at hh;exact absurd (hq.symm.trans hh) (by simp),by omega,by omega⟩
 ·have hq':(q != 0)=false:=by simp[bne,hq]
  by_cases hlen:ex.xs.length<=32
  ·have hli:¬((ex.xs.length:Int) > 32):=by omega
   have HF:Hid (fn l vs ms (sh.map Ex.xs,th.map Ex.xs) s=(0,sh.map Ex.xs++[ex.xs],t2++[ex.xs])):=by show _=_;rw[HP2.out,hq,if_pos rfl,if_pos hlen]
   have HQ2:=(show Hid _ from hq2 hq);clear HP2 SH u0 u1 u2 u3 u4 hq2
   go_upto_region 6 with fail
   have D2:=P2.ply.bag;have p3:=P2.ply.cells.1;have y3:=D2.free;have hb2:=D2.lt;have hA3:=D2.still ((aa.refl [] w2).alloc (.cells #[.slice ex.hd.ao ex.xs.length ex.hd.cap] 22))
   have hrw:Hid (∀j,j≠0->mL (sh++[ex]) th2 j=mL sh th2 j):=by
    intro j hj
    match j,hj with
    | 0,hj=>exact absurd rfl hj
    | 1,_=>rfl
    | m+2,_=>rfl
   have hrw1:Hid (∀j,j≠1->mL (sh++[ex]) (th2++[ex]) j=mL (sh++[ex]) th2 j):=by
    intro j hj
    match j,hj with
    | 0,_=>rfl
    | 1,hj=>exact absurd rfl hj
    | m+2,_=>rfl
   go_wp2_with (at_builtin;refine ay _ rfl (.tmp 23) (.tmp 25) 69 rfl i1 (.slice none 0 0) 24 (H 0) (cE sh) Tryz.underlying69 hi1 hy0 hy1 hy2 rfl Nat.one_pos rfl (by exact hA3.own 0) ⟨_,0,none⟩ 1 1 [.slice ex.hd.ao ex.xs.length ex.hd.cap] rfl rfl ?e1 ?e2 Nat.one_pos ?e3 ?e4 ?_)
   case e1=>intro j u hj;match j,hj with | 0,hj=>simp at hj;subst hj;simp[Addr.add]
   case e2=>intro u hu;simp at hu;subst hu;rfl
   case e3=>simp only[cE];unfold maxLen;omega
   case e4=>simp only[cE];omega
   intro g4 cap4 w4 hw4 hgr4 hfresh4;obtain⟨k4,f4,HP4⟩:=hA3.app (cs':=jF rb ro g l.length tb (sh++[ex]) th2 (cG H 0 ⟨some ⟨g4,0,none⟩,cap4⟩)) (rows':=mL (sh++[ex]) th2) 3 0 g4 cap4 ((cE sh).n+1) _ hw4 (kZ sh ex) hgr4 (by simpa using hfresh4) hrw.out (.slice (H 0).ao sh.length (H 0).cap) rfl (by simp[jF,cG,cE]);clear hw4 hgr4 hfresh4 hA3 p3 y3
   go_upto_region 7 with fail
   generalize hX:w4.setCell ⟨b,3,none⟩ (.slice (some ⟨g4,0,none⟩) ((cE sh).n+1) cap4)=X at HP4 ⊢;have DX:=HP4.out.1;have TX:=(show Hid _ from HP4.out.2.first ((aa.refl [] _).alloc _));have p4:=DX.cell 4;simp only[jF,List.getElem?_cons_succ,List.getElem?_cons_zero]at p4;have y4:=DX.free;have hbX:=DX.lt;have hA5:=DX.still ((aa.refl [] X).alloc (.cells #[.slice ex.hd.ao ex.xs.length ex.hd.cap] 22));clear hX k4 f4;go_wp2_with (at_builtin;refine ay _ rfl (.tmp 33) (.tmp 35) 69 rfl i1 (.slice none 0 0) 24 (cG H 0 ⟨some ⟨g4,0,none⟩,cap4⟩ 1) (cE th2) Tryz.underlying69 hi1 hy0 hy1 hy2 rfl Nat.one_pos rfl (by exact hA5.own 1) ⟨_,0,none⟩ 1 1 [.slice ex.hd.ao ex.xs.length ex.hd.cap] rfl rfl ?e1 ?e2 Nat.one_pos ?e3 ?e4 ?_)
   case e1=>intro j u hj;match j,hj with | 0,hj=>simp at hj;subst hj;simp[Addr.add]
   case e2=>intro u hu;simp at hu;subst hu;rfl
   case e3=>simp only[cE];unfold maxLen;omega
   case e4=>simp only[cE];omega
   intro g6 cap6 w6 hw6 hgr6 hfresh6;obtain⟨k6,f6,HP6⟩:=hA5.app (cs':=jF rb ro g l.length tb (sh++[ex]) (th2++[ex]) (cG (cG H 0 ⟨some ⟨g4,0,none⟩,cap4⟩) 1 ⟨some ⟨g6,0,none⟩,cap6⟩)) (rows':=mL (sh++[ex]) (th2++[ex])) 4 1 g6 cap6 ((cE th2).n+1) _ hw6 (kZ th2 ex) hgr6 (by simpa using hfresh6) hrw1.out (.slice (cG H 0 ⟨some ⟨g4,0,none⟩,cap4⟩ 1).ao th2.length (cG H 0 ⟨some ⟨g4,0,none⟩,cap4⟩ 1).cap) rfl (by simp[jF,cG,cE]);have T6:=(show Hid _ from ag.trans TX.out (HP6.out.2.first ((aa.refl [] _).alloc _)));clear hw6 hgr6 hfresh6 hA5 p4 y4;go_wp2;go_ret;refine⟨sh++[ex],th2++[ex],_,ar (by rw[HF.out]),P2.turned T6.out HP6.out.1 (fun e he=>?_) (fun e he=>?_),fun _=>by rw[HF.out];simp[HQ2.out],by simp;omega,by simp⟩
   ·rw[List.mem_append]at he
    rcases he with he | he
    ·exact P2.ply.shs e he
    ·simp at he;subst he;exact⟨F2,hlen⟩
   ·rw[List.mem_append]at he
    rcases he with he | he
    ·exact P2.ply.ths e he
    ·simp at he;subst he;exact⟨F2,hlen⟩
  ·have hli:(ex.xs.length:Int) > 32:=by omega
   have HF:Hid (fn l vs ms (sh.map Ex.xs,th.map Ex.xs) s=(10,sh.map Ex.xs,th.map Ex.xs)):=by show _=_;rw[HP2.out,hq,if_pos rfl,if_neg hlen]
   clear HP2 SH u0 u1 u2 u3 u4;go_wp2;go_ret;exact⟨sh,th2,H,ar (by rw[HF.out]),P2,by rw[HF.out];simp,by omega,by omega⟩
def yj(fin:Pl)(goal:List ByteArray)(th:List (List ByteArray)):lW :=
 match th with
 | []=>(12,fin)
 | [x]=>if qY x goal=true then bT else(12,fin)
 | _ :: _ :: _=>(11,fin)
def dC(l:List St)(vs:List ByteArray)(ms:List Bool)(fin:Pl)(goal:List ByteArray):List fk->List (List ByteArray)×List (List ByteArray)->lW
 | [],S=>yj fin goal S.2
 | s :: r,S=>if((fn l vs ms S s).1==0)=true then dC l vs ms fin goal r (fn l vs ms S s).2 else((fn l vs ms S s).1,s.at_)
def b8(l:List St)(a:Nat)(s:St)(steps:List fk):lW:=dC l (jM l a) (ce l a (jM l a)) s.fin s.symbols steps ([],[])
theorem wI(l:List St)(vs:List ByteArray)(ms:List Bool)(fin:Pl)(goal:List ByteArray)(steps:List fk)(S:List (List ByteArray)×List (List ByteArray))(i:Nat)(hi:i<steps.length) :
  dC l vs ms fin goal (steps.drop i) S=if((fn l vs ms S steps[i]).1==0)=true then dC l vs ms fin goal (steps.drop (i+1)) (fn l vs ms S steps[i]).2 else((fn l vs ms S steps[i]).1,steps[i].at_):=by
 rw[List.drop_eq_getElem_cons hi];rfl
theorem uH(l:List St)(vs:List ByteArray)(ms:List Bool)(fin:Pl)(goal:List ByteArray)(steps:List fk)(S:List (List ByteArray)×List (List ByteArray))(i:Nat)(hi:¬i<steps.length) :
  dC l vs ms fin goal (steps.drop i) S=yj fin goal S.2:=by
 rw[List.drop_of_length_le (by omega)];rfl
theorem Au(l:List fk)(k:Nat)(hk:k<l.length)(j:Nat)(hj:j<5):(qc l)[k*5+j]?=(gH l[k])[j]?:=by
 induction l generalizing k with
 | nil=>simp at hk
 | cons s r ih =>
  have e:qc (s :: r)=gH s++qc r:=rfl;rw[e]
  cases k with
  | zero=>rw[List.getElem?_append_left (by simp[gH];omega)];simp
  | succ k =>
   rw[List.getElem?_append_right (by simp[gH];omega)];have e2:(k+1)*5+j-(gH s).length=k*5+j:=by simp[gH];omega
   rw[e2,ih k (by simpa using hk)];rfl
theorem au.step{w:World}{h:Hd}{l:List fk}(o:au w h (dB l))(k:Nat)(hk:k<l.length) :
  ∃g,h.ao=some ⟨g,0,none⟩/\l.length<=h.cap/\h.cap<=9223372036854775807/\w.cell? ⟨g,k*5,none⟩=some (.int .i64 l[k].kind)/\w.cell? ⟨g,k*5+1,none⟩=some (.int .i64 l[k].number)/\w.cell? ⟨g,k*5+2,none⟩=some (.string l[k].at_.file)/\w.cell? ⟨g,k*5+3,none⟩=some (.int .i64 l[k].at_.line)/\w.cell? ⟨g,k*5+4,none⟩=some (.int .i64 l[k].at_.col):=by
 rcases o.ways with ⟨_,h0,_⟩ | ⟨g,cur,e1,e2,e3,e4,-⟩
 ·have:l.length=0:=h0
  omega
 ·have c:=fun j (hj:j<5) v (hv:(gH l[k])[j]?=some v)=>o.cell e1 (k*5+j) v ((Au l k hk j hj).trans hv)
  exact⟨g,e1,e3,by unfold maxLen at e4;exact e4,c 0 (by omega) _ rfl,c 1 (by omega) _ rfl,c 2 (by omega) _ rfl,c 3 (by omega) _ rfl,c 4 (by omega) _ rfl⟩
structure xM(l:List St)(steps:List fk):Prop where
 len:steps.length<=1100000
 num:∀s∈steps,s.number<=2000000
 named:∀s∈steps,(s.kind==3)=false->s.number<l.length
set_option maxRecDepth 100000 in
theorem Be(rb ro g a:Nat)(l:List St)(HR K:Nat->Hd)(hst:Hd)(steps:List fk)(w:World)(hr:bZ w rb ro l HR)(ok:db l)(ha:a<l.length)(hall:ed w g l l.length K)(hO:au w hst (dB steps))(hso:xM l steps) :
  Calls Tryz.prog 111 #[.pointer (some ⟨rb,ro,none⟩),.int .i64 a,.slice (some ⟨g,0,none⟩) l.length l.length,.slice hst.ao steps.length hst.cap] w fun e w' =>
   e=.returned (eM (b8 l a l[a] steps))/\aa [] w w':=by
 have hbw:=hr.lt;have hlen:=ok.len;have hsl:=hso.len;have hyl:=ok.syms a ha;obtain⟨AO,HAO⟩:∃AO,Hid (hst.ao=AO):=⟨_,rfl⟩
 rw[HAO.out];obtain⟨W,hW⟩:∃W,W=w.alloc (.cells #[.int .i64 0,.string ⟨#[]⟩,.int .i64 0,.int .i64 0] 167):=⟨_,rfl⟩
 have kW:aa [] w W:=by rw[hW];exact(aa.refl [] _).alloc _
 have BF:W.heap[w.heap.size]?=some (.cells aO 167 (0,0)):=by rw[hW];exact heap_alloc_new _ _
 have HW:=(show Hid _ from hW.symm);have hvl:(jM l a).length<=l.length:=tG l a l.length;clear hW;go_enter Tryz.func111,Tryz.ntmps111
 go_upto_region 1 with fail
 rw[HW.out]
 go_upto_region 2 with (go_at_call 127;refine(lm rb ro a l HR _ (by exact hr.still kW) ok).mono ?_;rintro e w2 ⟨hva,rfl,hOv,hNv,k2⟩)
 have K2:=kW.trans k2;go_wp2_with (go_at_call 128;refine(vE rb ro a l HR hva (jM l a) _ (by exact hr.still K2) ok (by exact hOv) (by omega)).mono ?_;rintro e w3 ⟨tb,hv,hm,rfl,A3,ht3,hn3,k3⟩);have K3:=K2.trans k3;have BF3:=(k2.trans k3).get BF (by simp);have E:vz w3 rb ro g tb l HR K (jM l a) (ce l a (jM l a)) hv hm:=⟨hr.still K3,ok,hall.still K3,A3,fW _ _ _ _,by omega⟩;have hO3:au w3 hst (dB steps):=hO.moved (fun x hx=>K3.block x (hO.lt hx) (by simp))
 have P4:ir w3 (w3.alloc (.cells #[.pointer (some ⟨rb,ro,none⟩),.slice (some ⟨g,0,none⟩) l.length l.length,.pointer (some ⟨tb,0,none⟩),.slice none 0 0,.slice none 0 0] 213)) w3.heap.size rb ro g l.length tb [] [] gu:=by
  refine⟨⟨⟨heap_alloc_new _ _,?_,fun i j _=>Or.inl rfl,fun i e=>by simp[gu,Hd.blk]at e⟩,by simp,by simp⟩,(aa.refl [] _).alloc _,Nat.le_refl _,fun x hx=>by obtain⟨i,hi⟩:=hx;simp[gu,Hd.blk]at hi⟩;intro i
  match i with
  | 0=>exact World.ownsRow_nil _ _ _ _
  | 1=>exact World.ownsRow_nil _ _ _ _
  | m+2=>exact World.ownsRow_nil _ _ _ _
 have hs3:=ac BF3
 go_loopg [11] steps.length (fun gk iv wr=>∃(i:Nat) (sh th:List Ex) (H:Nat->Hd),i<=steps.length/\gk=steps.length-i/\iv=.int .i64 i/\sh.length<=i/\th.length<=i/\Hid (b8 l a l[a] steps=dC l (jM l a) (ce l a (jM l a)) l[a].fin l[a].symbols (steps.drop i) (sh.map Ex.xs,th.map Ex.xs))/\ir w3 wr w3.heap.size rb ro g l.length tb sh th H)
 case atStart=>exact⟨0,[],[],gu,by omega,by omega,rfl,by simp,by simp,rfl,P4⟩
 case round =>
  obtain⟨i,sh,th,H,hi,hg,rfl,hsh,hth,hR,P⟩:=hrel;clear P4;have B:=P.kept.get BF3 (by simp);obtain⟨z0,z1,z2,z3⟩:=bI B;have yz:=an B;have KW:=K3.trans P.kept;have HKR:=(show Hid _ from fun a0 a1 a2 a3=>gj (F:=w.heap.size) KW (Nat.le_refl _) a0 a1 a2 a3)
  by_cases hlt:i<steps.length
  ·have hOr:au wr hst (dB steps):=hO3.moved (fun x hx=>P.kept.block x (hO3.lt hx) (by simp))
   obtain⟨gp,ep,ecap,ecap2,d0,d1,d2,d3,d4⟩:=hOr.step i hlt;obtain rfl:AO=some ⟨gp,0,none⟩:=HAO.out.symm.trans ep;have hgp:gp<wr.heap.size:=hOr.lt (by unfold Hd.blk;rw[ep];rfl);have h1:=hso.num steps[i] (List.getElem_mem hlt);have h2:=hso.named steps[i] (List.getElem_mem hlt);have HRN:=(show Hid _ from hR.out.trans (wI l (jM l a) (ce l a (jM l a)) l[a].fin l[a].symbols steps (sh.map Ex.xs,th.map Ex.xs) i hlt));have PA:=Cx w3 wr w3.heap.size rb ro g tb steps[i] l HR K (jM l a) (ce l a (jM l a)) hv hm sh th H E P h2 h1 (by omega) (by omega)
   have HDC:Hid (∀w',aa [] w3 w'->w'.cell? ⟨gp,i*5+2,none⟩=some (.string steps[i].at_.file)/\w'.cell? ⟨gp,i*5+3,none⟩=some (.int .i64 steps[i].at_.line)/\w'.cell? ⟨gp,i*5+4,none⟩=some (.int .i64 steps[i].at_.col)):=by
    intro w' k;obtain⟨gp',ep',-,-,-,-,q2,q3,q4⟩:=(hO3.moved (w':=w') (fun x hx=>k.block x (hO3.lt hx) (by simp))).step i hlt;rw[ep]at ep'
    cases ep'
    exact⟨q2,q3,q4⟩
   clear hR ep hOr;generalize steps[i]=st at *;obtain⟨sk,sn,spf,spl,spc⟩:=st;simp only at d0 d1 d2 d3 d4 PA HDC HRN;generalize fn l (jM l a) (ce l a (jM l a)) (sh.map Ex.xs,th.map Ex.xs) ⟨sk,sn,⟨spf,spl,spc⟩⟩=Q at *;obtain⟨q,Q2⟩:=Q;simp only at PA HRN
   cases hq:(q==0)
   ·have hq':(q != 0)=true:=by simp[bne,hq]
    have HF:Hid (b8 l a l[a] steps=(q,⟨spf,spl,spc⟩)):=by show _=_;rw[HRN.out,if_neg (by rw[hq];simp)]
    clear HRN
    go_upto_region 8 with (go_at_call 129;refine PA.mono ?_;rintro e w5 ⟨sh5,th5,H5,rfl,P5,hS5,-,-⟩)
    obtain⟨c2,c3,c4⟩:=HDC.out w5 P5.kept;have B5:=P5.kept.get BF3 (by simp);clear z0 z1 z2 z3 yz d0 d1 d2 d3 d4 HKR;obtain⟨z0,z1,z2,z3⟩:=bI B5;have yz:=an B5;have K5:=K3.trans P5.kept;go_wp2
    exact bodyPost_ret (v:=.agg #[.int .i64 q,.string spf,.int .i64 spl,.int .i64 spc]) (by simp[results,Tryz.results111,go_sem,z0,z1,z2,z3]) rfl
     ⟨by rw[HF.out];rfl,gj (F:=w.heap.size) K5 (Nat.le_refl _) _ _ _ _⟩
   ·have hq':(q != 0)=false:=by simp[bne,hq]
    have HF:Hid (b8 l a l[a] steps=dC l (jM l a) (ce l a (jM l a)) l[a].fin l[a].symbols (steps.drop (i+1)) Q2):=by show _=_;rw[HRN.out,if_pos hq]
    clear HRN;go_wp2_with (go_at_call 129;refine PA.mono ?_;rintro e w5 ⟨sh5,th5,H5,rfl,P5,hS5,hl5,hl6⟩)
    go_roundg (steps.length-(i+1))
    case measure=>omega
    case rel=>exact⟨i+1,sh5,th5,H5,by omega,rfl,by go_num,by omega,by omega,by show _=_;rw[hS5 hq];exact HF.out,P5⟩
  ·have HE:=(show Hid _ from hR.out.trans (uH l (jM l a) (ce l a (jM l a)) l[a].fin l[a].symbols steps (sh.map Ex.xs,th.map Ex.xs) i hlt))
   have Er:=E.still P.kept;clear hR
   go_upto_region 10 with (go_at_call 87;refine(aI rb ro a l HR _ (by exact Er.recd) ha).mono ?_;rintro e w5 ⟨rfl,k5⟩;unfold cQ)
   obtain⟨X,hX⟩:∃X,X=w5.alloc (.cells #[.int .i64 l[a].kind,.string l[a].label,.slice (HR (10+2*a)).ao l[a].symbols.length (HR (10+2*a)).cap,.slice (HR (11+2*a)).ao l[a].proof.length (HR (11+2*a)).cap,.string l[a].fin.file,.int .i64 l[a].fin.line,.int .i64 l[a].fin.col,.int .i64 l[a].til] 144):=⟨_,rfl⟩
   have kX:aa [] wr X:=by rw[hX];exact k5.alloc _
   have BX:X.heap[w5.heap.size]?=some (.cells #[.int .i64 l[a].kind,.string l[a].label,.slice (HR (10+2*a)).ao l[a].symbols.length (HR (10+2*a)).cap,.slice (HR (11+2*a)).ao l[a].proof.length (HR (11+2*a)).cap,.string l[a].fin.file,.int .i64 l[a].fin.line,.int .i64 l[a].fin.col,.int .i64 l[a].til] 144 (0,0)):=by rw[hX];exact heap_alloc_new _ _
   rw[<-hX];have PX:=P.still kX;have B5:=kX.get B (by simp);clear hX z0 z1 z2 z3 yz;obtain⟨z0,z1,z2,z3⟩:=bI B5;have yz:=an B5;have KX:=KW.trans kX;have m2:X.cell? ⟨w5.heap.size,2,none⟩=some (.slice (HR (10+2*a)).ao l[a].symbols.length (HR (10+2*a)).cap):=by rw[ab BX];rfl
   have m4:X.cell? ⟨w5.heap.size,4,none⟩=some (.string l[a].fin.file):=by rw[ab BX];rfl
   have m5:X.cell? ⟨w5.heap.size,5,none⟩=some (.int .i64 l[a].fin.line):=by rw[ab BX];rfl
   have m6:X.cell? ⟨w5.heap.size,6,none⟩=some (.int .i64 l[a].fin.col):=by rw[ab BX];rfl
   have p4:=PX.ply.cells.2;have hbX:=PX.ply.bag.lt
   rcases th with _ | ⟨x,th⟩
   ·have HF:Hid (b8 l a l[a] steps=(12,l[a].fin)):=HE.out
    simp only[List.length_nil]at p4;clear HE
    go_upto_region 12 with fail
    go_quiet (fail)
    go_wp2
    exact bodyPost_ret (v:=.agg #[.int .i64 12,.string l[a].fin.file,.int .i64 l[a].fin.line,.int .i64 l[a].fin.col]) (by simp[results,Tryz.results111,go_sem,z0,z1,z2,z3]) rfl
     ⟨by rw[HF.out];rfl,gj (F:=w.heap.size) (KX.drewN _) (Nat.le_refl _) _ _ _ _⟩
   ·rcases th with _ | ⟨y,th⟩
    ·have hE:b8 l a l[a] steps=if qY x.xs l[a].symbols=true then bT else(12,l[a].fin):=HE.out
     have HEH:=(show Hid _ from hE);have oT:au X (H 1) (cE [x]):=PX.ply.bag.own 1
     rcases oT.ways with ⟨_,h0,_⟩ | ⟨gt,curt,et,-,et3,-⟩
     ·simp[cE]at h0
     have ct:=oT.cell et 0 (od x) rfl;unfold od at ct;rw[et]at p4;simp only[List.length_cons,List.length_nil]at p4;have hcpt:1<=(H 1).cap:=et3;have hfar:=(PX.ply.ths x (by simp));have HEQ:=(show Hid _ from fun(w':World) (k:aa [] X w')=>qZ x.hd (HR (10+2*a)) x.xs l[a].symbols w' (hfar.1.view.still k) (((Er.still (kX.trans k)).recd.sts.syms a l[a] (List.getElem?_eq_getElem ha)).view) (by omega) (by omega))
     have HC:Hid (∀w',aa [] X w'->w'.cell? ⟨w3.heap.size,4,none⟩=some (.slice (some ⟨gt,0,none⟩) 1 (H 1).cap)/\w'.cell? ⟨gt,0,none⟩=some (.slice x.hd.ao x.xs.length x.hd.cap)/\w'.cell? ⟨w5.heap.size,2,none⟩=some (.slice (HR (10+2*a)).ao l[a].symbols.length (HR (10+2*a)).cap)):=by
      intro w' k;refine⟨?_,((PX.still k).ply.bag.own 1).cell et 0 (od x) rfl,?_⟩
      ·rw[<-et];exact(PX.still k).ply.cells.2
      ·rw[ab (k.get BX (by simp))];rfl
     clear hE HE et oT
     go_upto_region 12 with fail
     cases heq:qY x.xs l[a].symbols
     ·have HF:Hid (b8 l a l[a] steps=(12,l[a].fin)):=by show _=_;rw[HEH.out,heq];rfl
      rw[heq]at HEQ;clear HEH
      go_region_held3 (fun w'=>w'.cell? ⟨w3.heap.size,4,none⟩=some (.slice (some ⟨gt,0,none⟩) 1 (H 1).cap)/\w'.cell? ⟨gt,0,none⟩=some (.slice x.hd.ao x.xs.length x.hd.cap)/\w'.cell? ⟨w5.heap.size,2,none⟩=some (.slice (HR (10+2*a)).ao l[a].symbols.length (HR (10+2*a)).cap)) (go_keep) (first | (go_at_call 130;refine(HEQ.out _ (by exact(aa.refl [] X).drew)).mono ?_;rintro e w6 ⟨rfl,k6⟩;obtain⟨x0,x1,x2⟩:=HC.out w6 ((aa.refl [] X).drew.trans k6)))
      all_goals
       have kk:=((aa.refl [] X).drew.trans k6);have BX6:=kk.get BX (by simp);have B6:=kk.get B5 (by simp);clear z0 z1 z2 z3 yz m2 m4 m5 m6 p4 ct;obtain⟨z0,z1,z2,z3⟩:=bI B6;have yz:=an B6;have m4:w6.cell? ⟨w5.heap.size,4,none⟩=some (.string l[a].fin.file):=by rw[ab BX6];rfl
       have m5:w6.cell? ⟨w5.heap.size,5,none⟩=some (.int .i64 l[a].fin.line):=by rw[ab BX6];rfl
       have m6:w6.cell? ⟨w5.heap.size,6,none⟩=some (.int .i64 l[a].fin.col):=by rw[ab BX6];rfl
       go_wp2;exact bodyPost_ret (v:=.agg #[.int .i64 12,.string l[a].fin.file,.int .i64 l[a].fin.line,.int .i64 l[a].fin.col]) (by simp[results,Tryz.results111,go_sem,z0,z1,z2,z3]) rfl ⟨by rw[HF.out];rfl,gj (F:=w.heap.size) (KX.trans kk) (Nat.le_refl _) _ _ _ _⟩
     ·have HF:Hid (b8 l a l[a] steps=bT):=by show _=_;rw[HEH.out,heq];rfl
      rw[heq]at HEQ;clear HEH
      go_region_held3 (fun w'=>w'.cell? ⟨w3.heap.size,4,none⟩=some (.slice (some ⟨gt,0,none⟩) 1 (H 1).cap)/\w'.cell? ⟨gt,0,none⟩=some (.slice x.hd.ao x.xs.length x.hd.cap)/\w'.cell? ⟨w5.heap.size,2,none⟩=some (.slice (HR (10+2*a)).ao l[a].symbols.length (HR (10+2*a)).cap)) (go_keep) (first | (go_at_call 130;refine(HEQ.out _ (by exact(aa.refl [] X).drew)).mono ?_;rintro e w6 ⟨rfl,k6⟩;obtain⟨x0,x1,x2⟩:=HC.out w6 ((aa.refl [] X).drew.trans k6)))
      all_goals
       have kk:=((aa.refl [] X).drew.trans k6);have B6:=kk.get B5 (by simp);clear z0 z1 z2 z3 yz m2 m4 m5 m6 p4 ct;obtain⟨z0,z1,z2,z3⟩:=bI B6;have yz:=an B6;go_wp2;exact bodyPost_ret (v:=.agg #[.int .i64 0,.string ⟨#[]⟩,.int .i64 0,.int .i64 0]) (by simp[results,Tryz.results111,go_sem,z0,z1,z2,z3]) rfl ⟨by rw[HF.out];rfl,gj (F:=w.heap.size) (KX.trans kk) (Nat.le_refl _) _ _ _ _⟩
    ·have HF:Hid (b8 l a l[a] steps=(11,l[a].fin)):=HE.out
     have hgt:((th.length:Int)+1+1 > 1):=by omega
     simp only[List.length_cons]at p4;clear HE;go_wp2
     exact bodyPost_ret (v:=.agg #[.int .i64 11,.string l[a].fin.file,.int .i64 l[a].fin.line,.int .i64 l[a].fin.col]) (by simp[results,Tryz.results111,go_sem,z0,z1,z2,z3]) rfl
      ⟨by rw[HF.out];rfl,gj (F:=w.heap.size) KX (Nat.le_refl _) _ _ _ _⟩
structure eR(w:World)(b o:Nat)(l:List St)(H:Nat->Hd)(g:Nat)(L:List Rw):Prop where
 recd:bZ w b o l H
 cell:∃arr t,w.heap[b]?=some (.cells arr t (0,0))/\arr[o+2]?=some (.slice (some ⟨g,0,none⟩) L.length L.length)
 arr:w.heap[g]?=some (.cells (d8 L).toArray 53 (0,0))
theorem eR.still{w w':World}{b o:Nat}{l:List St}{H:Nat->Hd}{g:Nat}{L:List Rw}(h:eR w b o l H g L)(k:aa [] w w'):eR w' b o l H g L:=by
 obtain⟨arr,t,h1,h2⟩:=h.cell;exact⟨h.recd.still k,⟨arr,t,k.get h1 (by simp),h2⟩,k.get h.arr (by simp)⟩
theorem eR.at2{w:World}{b o:Nat}{l:List St}{H:Nat->Hd}{g:Nat}{L:List Rw}(h:eR w b o l H g L):w.cell? ⟨b,o+2,none⟩=some (.slice (some ⟨g,0,none⟩) L.length L.length):=by
 obtain⟨arr,t,h1,h2⟩:=h.cell;rw[ab h1];exact h2
theorem eR.row{w:World}{b o:Nat}{l:List St}{H:Nat->Hd}{g:Nat}{L:List Rw}(h:eR w b o l H g L)(k:Nat)(hk:k<L.length) :
  w.cell? ⟨g,k*6,none⟩=some (.string L[k].label)/\w.cell? ⟨g,k*6+1,none⟩=some (.int .i64 L[k].verdict)/\w.cell? ⟨g,k*6+2,none⟩=some (.int .i64 L[k].why)/\w.cell? ⟨g,k*6+3,none⟩=some (.string L[k].at_.file)/\w.cell? ⟨g,k*6+4,none⟩=some (.int .i64 L[k].at_.line)/\w.cell? ⟨g,k*6+5,none⟩=some (.int .i64 L[k].at_.col):=by
 have c:=fun j (hj:j<6) v (hv:(gB L[k])[j]?=some v)=>(ab h.arr (k*6+j)).trans ((by simp only[List.getElem?_toArray];exact(s9 L k hk j hj).trans hv))
 exact⟨c 0 (by omega) _ rfl,c 1 (by omega) _ rfl,c 2 (by omega) _ rfl,c 3 (by omega) _ rfl,c 4 (by omega) _ rfl,c 5 (by omega) _ rfl⟩
def cR(L:List Rw)(n:Nat):Int:=(L.getD n jX).verdict
theorem iZ(b o n:Nat)(l:List St)(H:Nat->Hd)(g:Nat)(L:List Rw)(w:World)(h:eR w b o l H g L) :
  Calls Tryz.prog 85 #[.pointer (some ⟨b,o,none⟩),.int .i64 n] w fun e w'=>e=.returned (.int .i64 (cR L n))/\w'=w:=by
 have c2:=h.at2
 by_cases hlt:n<L.length
 ·have HV:Hid (cR L n=L[n].verdict):=by show _=_;unfold cR;rw[List.getD_eq_getElem?_getD,List.getElem?_eq_getElem hlt];rfl
  obtain⟨-,c3,-,-,-,-⟩:=h.row n hlt;have hlti:¬((n:Int) ≥ L.length):=by omega
  go_enter Tryz.func85,Tryz.ntmps85;go_wp2;go_ret;exact⟨ar (by rw[HV.out]),rfl⟩
 ·have HV:Hid (cR L n=0):=by show _=_;unfold cR;rw[List.getD_eq_getElem?_getD,List.getElem?_eq_none (by omega)];rfl
  have hlti:(n:Int) ≥ L.length:=by omega
  go_enter Tryz.func85,Tryz.ntmps85;go_wp2;go_ret;exact⟨ar (by rw[HV.out]),rfl⟩
def nF(steps:List fk):Option Nat:=(List.range steps.length).find? (fun i=>match steps[i]? with | some s=>s.kind==1 | none=>false)
theorem mX(hd:Hd)(steps:List fk)(w:World)(ho:au w hd (dB steps))(hl:steps.length<=1073741824) :
  Calls Tryz.prog 110 #[.slice hd.ao steps.length hd.cap] w fun e w'=>e=.returned (.int .i64 (bQ (nF steps)))/\w'=w:=by
 obtain⟨AO,HAO⟩:∃AO,Hid (hd.ao=AO):=⟨_,rfl⟩
 rw[HAO.out];go_enter Tryz.func110,Tryz.ntmps110;go_wp2
 go_loopg [3] steps.length (fun g i wr=>∃k:Nat,k<=steps.length/\g=steps.length-k/\i=.int .i64 k/\Hid (∀i,i<k->(match steps[i]? with | some s=>s.kind==1 | none=>false)=false)/\wr=w)
 case atStart=>exact⟨0,by omega,by omega,rfl,fun i hi=>by omega,rfl⟩
 case round =>
  obtain⟨k,hk,hg,rfl,hall,rfl⟩:=hrel
  by_cases hlt:k<steps.length
  ·obtain⟨gp,ep,ecap,ecap2,d0,-⟩:=ho.step k hlt
   obtain rfl:AO=some ⟨gp,0,none⟩:=HAO.out.symm.trans ep;clear ep;have HG:Hid (steps[k]?=some steps[k]):=List.getElem?_eq_getElem hlt;generalize steps[k]=st at *
   cases hb:(st.kind==1)
   ·have HN:Hid (∀i,i<k+1->(match steps[i]? with | some s=>s.kind==1 | none=>false)=false):=by
     intro i hi
     by_cases e:i=k
     ·subst e;rw[HG.out];exact hb
     ·exact hall.out i (by omega)
    clear HG hall;go_wp2
    go_roundg (steps.length-(k+1))
    case measure=>omega
    case rel=>exact⟨k+1,by omega,rfl,by go_num,HN,rfl⟩
   ·have HF:Hid (nF steps=some k):=gK hlt (by rw[HG.out];exact hb) hall.out
    clear HG hall;go_wp2;go_ret;exact⟨ar (by rw[HF.out];rfl),rfl⟩
  ·have HF:Hid (nF steps=none):=fQ (fun i hi=>hall.out i (by omega))
   clear hall;go_wp2;go_ret;exact⟨ar (by rw[HF.out];rfl),rfl⟩
def tH(v:Int):Bool:=v==2||v==3||v==4
def jo(L:List Rw)(steps:List fk):Bool:=steps.all (fun s=>!(s.kind==2) || !(tH (cR L s.number)))
theorem EC(L:List Rw)(steps:List fk)(k:Nat)(hk:k<steps.length)(h1:(steps[k].kind==2)=true)(h2:tH (cR L steps[k].number)=true):jo L steps=false:=by
 cases e:jo L steps
 ·rfl
 ·unfold jo at e;rw[List.all_eq_true]at e
  have:=e _ (List.getElem_mem hk);rw[h1,h2]at this;cases this
theorem CL(L:List Rw)(steps:List fk)(h:∀k (hk:k<steps.length),(!(steps[k].kind==2) || !(tH (cR L steps[k].number)))=true):jo L steps=true:=by
 unfold jo;rw[List.all_eq_true];intro x hx;obtain⟨k,hk,rfl⟩:=List.getElem_of_mem hx;exact h k hk
theorem CK(b o:Nat)(l:List St)(H:Nat->Hd)(g:Nat)(L:List Rw)(hd:Hd)(steps:List fk)(w:World)(h:eR w b o l H g L)(ho:au w hd (dB steps))(hsl:steps.length<=1100000) :
  Calls Tryz.prog 112 #[.pointer (some ⟨b,o,none⟩),.slice hd.ao steps.length hd.cap] w fun e w'=>e=.returned (.bool (jo L steps))/\w'=w:=by
 obtain⟨AO,HAO⟩:∃AO,Hid (hd.ao=AO):=⟨_,rfl⟩
 rw[HAO.out];go_enter Tryz.func112,Tryz.ntmps112;go_wp2
 go_loopg [5] steps.length (fun g i wr=>∃k:Nat,k<=steps.length/\g=steps.length-k/\i=.int .i64 k/\Hid (∀i (hi:i<steps.length),i<k->(!(steps[i].kind==2) || !(tH (cR L steps[i].number)))=true)/\wr=w)
 case atStart=>exact⟨0,by omega,by omega,rfl,fun i _ hi=>by omega,rfl⟩
 case round =>
  obtain⟨k,hk,hg,rfl,hall,rfl⟩:=hrel
  by_cases hlt:k<steps.length
  ·obtain⟨gp,ep,ecap,ecap2,d0,d1,-⟩:=ho.step k hlt
   obtain rfl:AO=some ⟨gp,0,none⟩:=HAO.out.symm.trans ep;clear ep
   have HNX:Hid ((!(steps[k].kind==2) || !(tH (cR L steps[k].number)))=true->∀i (hi:i<steps.length),i<k+1->(!(steps[i].kind==2) || !(tH (cR L steps[i].number)))=true):=by
    intro hh i hi hik
    by_cases e:i=k
    ·subst e;exact hh
    ·exact hall.out i hi (by omega)
   have HNO:=(show Hid _ from EC L steps k hlt);have VE:=iZ b o steps[k].number l H g L wr h;clear hall;generalize steps[k]=st at *
   cases hb:(st.kind==2)
   ·have hb':(st.kind != 2)=true:=by simp[bne,hb]
    have HN:=(show Hid _ from HNX.out (by rw[hb];rfl));clear HNX HNO VE;go_wp2
    go_roundg (steps.length-(k+1))
    case measure=>omega
    case rel=>exact⟨k+1,by omega,rfl,by go_num,HN.out,rfl⟩
   ·have hb':(st.kind != 2)=false:=by simp[bne,hb]
    have HBV:Hid (∀v,tH v=(v==2||v==3||v==4)):=fun _=>rfl
    generalize cR L st.number=V at *
    cases h2:(V==2)
    ·cases h3:(V==3)
     ·cases h4:(V==4)
      ·have HN:=(show Hid _ from HNX.out (by rw[HBV.out,h2,h3,h4];simp))
       clear HNX HNO;go_wp2_with (go_at_call 85;refine VE.mono ?_;rintro e w3 ⟨rfl,hw3⟩;rw[hw3])
       go_roundg (steps.length-(k+1))
       case measure=>omega
       case rel=>exact⟨k+1,by omega,rfl,by go_num,HN.out,rfl⟩
      ·have HF:=(show Hid _ from HNO.out hb (by rw[HBV.out,h2,h3,h4];rfl))
       clear HNX HNO;go_wp2_with (go_at_call 85;refine VE.mono ?_;rintro e w3 ⟨rfl,hw3⟩;rw[hw3]);go_ret;exact⟨GQ HF.out.symm,rfl⟩
     ·have HF:=(show Hid _ from HNO.out hb (by rw[HBV.out,h2,h3];rfl))
      clear HNX HNO;go_wp2_with (go_at_call 85;refine VE.mono ?_;rintro e w3 ⟨rfl,hw3⟩;rw[hw3]);go_ret;exact⟨GQ HF.out.symm,rfl⟩
    ·have HF:=(show Hid _ from HNO.out hb (by rw[HBV.out,h2];rfl))
     clear HNX HNO;go_wp2_with (go_at_call 85;refine VE.mono ?_;rintro e w3 ⟨rfl,hw3⟩;rw[hw3]);go_ret;exact⟨GQ HF.out.symm,rfl⟩
  ·have HF:Hid (jo L steps=true):=CL L steps (fun i hi=>hall.out i hi (by omega))
   clear hall;go_wp2;go_ret;exact⟨GQ HF.out.symm,rfl⟩
end Go.Proofs.YtlbhbocbakijbaaGreat

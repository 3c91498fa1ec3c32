import Derived.Test.YtpddjjabfbfifaaGreatG21
namespace Go.Proofs.YtpddjjabfbfifaaGreat
open Go.RowKit
set_option maxHeartbeats 40000000
section
attribute [local go_sem] tA
theorem pA.turned{w w':World}{b:Nat}{H H':Nat->Hd}{h:Hd}{l:List ByteArray}(f:pA w b H h l)(t:aw b w H w' H'):pA w' b H' h l:=by
 refine⟨f.view.keptP t.1 (fun x hx=>?_),fun x hx=>?_⟩
 ·obtain⟨_,h2,h3⟩:=f.far x hx
  rintro (e | e)
  ·exact h2 e
  ·exact h3 e
 ·obtain⟨h1,h2,h3⟩:=f.far x hx
  exact⟨Nat.lt_of_lt_of_le h1 t.1.size,h2,t.fresh x h1 h3⟩
theorem aR.reset{w:World}{b t:Nat}{cs:List Value}{rows rows':Nat->dK}{H:Nat->Hd}(h:aR w b t cs rows H)(c:Nat)(u:Value)(o:∀i,aA w (H i) (rows' i)) :
  aR (w.setCell ⟨b,c,none⟩ u) b t (cs.set c u) rows' H/\aw b w H (w.setCell ⟨b,c,none⟩ u) H:=by
 obtain⟨h1,h2⟩:=h.set c u;refine⟨⟨h1.blk,fun i=>(o i).moved (fun k hk=>Below.heap_setCell _ _ _ _ ?_),h.apart,h.off⟩,h2⟩;rintro rfl;exact h.off i hk
theorem pU(w:World)(b:Nat)(H:Nat->Hd):pA w b H ⟨none,0⟩ []:=⟨Or.inl rfl,fun x hx=>by simp[Hd.blk]at hx⟩
set_option maxRecDepth 100000 in
theorem vO(w0 w:World)(b rb ro g tb nn:Nat)(l:List St)(HR K:Nat->Hd)(vs:List ByteArray)(ms:List Bool)(hv hm:Hd)(sh th:List Ex)(H:Nat->Hd)(E:Ce w0 rb ro g tb l HR K vs ms hv hm)(P:kJ w0 w b rb ro g l.length tb sh th H)
  (hn:nn<l.length) (hA:qk l nn=true) (hth:th.length<=2000000) :
  Calls Tryz.prog 261 #[.pointer (some ⟨b,0,none⟩),.int .i64 nn] w fun e w'=>∃(th':List Ex) (ex:Ex),
   e=.returned (.tuple #[.slice ex.hd.ao ex.xs.length ex.hd.cap,.int .i64 (gU l nn vs ms (th.map Ex.xs)).1])/\ex.xs=(gU l nn vs ms (th.map Ex.xs)).2/\kJ w0 w' b rb ro g l.length tb sh th' H/\pA w' b H ex.hd ex.xs /\
   (((gU l nn vs ms (th.map Ex.xs)).1==0)=true->th'=th.take (th.length-(bE l nn).length))/\th'.length<=th.length:=by
 have Ew:=E.still P.kept;have hlen:=E.ok.len;obtain⟨p0,p1,p2⟩:=P.ply.ctx.cells;obtain⟨p3,p4⟩:=P.ply.cells;have hyA:kp l l.length nn=bE l nn:=by unfold kp;rw[if_pos ⟨hn,hA⟩]
 have ca:=Ew.all.cell nn hn;have oa:=Ew.all.own nn hn;rw[hyA]at ca oa;obtain⟨AO,HAO⟩:∃AO,Hid ((K nn).ao=AO):=⟨_,rfl⟩
 rw[HAO.out]at ca;have hhl:(bE l nn).length<=l.length:=mH l nn l.length;have hhlt:∀i (hi:i<(bE l nn).length),(bE l nn)[i]<l.length:=fun i hi=>zi (List.getElem_mem hi)
 have hgn:(nn:Int)<l.length:=by omega
 have hgnn:¬(nn:Int) ≥ l.length:=by omega
 clear hyA p2 p3
 by_cases hu:th.length<(bE l nn).length
 ·have HF:Hid (gU l nn vs ms (th.map Ex.xs)=(6,[])):=by show _=_;unfold gU;rw[List.length_map,if_pos hu]
  have hneg:(th.length:Int)-(bE l nn).length<0:=by omega
  go_enter Tryz.func261,Tryz.ntmps261;go_wp2
  exact bodyPost_ret (v:=.tuple #[.slice none 0 0,.int .i64 6]) (by simp[results,Tryz.results261,go_sem]) rfl
   ⟨th,⟨⟨none,0⟩,[]⟩,by rw[HF.out];rfl,by rw[HF.out],P,pU _ _ _,by rw[HF.out];simp,Nat.le_refl _⟩
 ·obtain⟨f,hf⟩:∃f,th.length-(bE l nn).length=f:=⟨_,rfl⟩
  have hfi:(th.length:Int)-(bE l nn).length=(f:Int):=by omega
  have hf0:¬(f:Int)<0:=by omega
  obtain⟨RR,HRR⟩:∃RR,Hid (RR=mN l (bE l nn) ((th.map Ex.xs).drop f) ([],[])):=⟨_,rfl⟩
  have HF:Hid (gU l nn vs ms (th.map Ex.xs)=qM l nn vs ms l[nn].symbols RR):=by
   show _=_
   unfold gU;rw[List.length_map,if_neg hu,wN l nn hn,hf,HRR.out]
  rw[hf];have hft:f+(bE l nn).length=th.length:=by omega
  have HFT:=(show Hid _ from hft);clear hf hft;obtain⟨W,hW⟩:∃W,W=w.alloc (.cells #[.slice none 0 0,.slice none 0 0] 343):=⟨_,rfl⟩
  have kW:ab [] w W:=by rw[hW];exact(ab.refl [] _).alloc _
  have SI:kK W w.heap.size [] [] ld:=by
   rw[hW];refine⟨⟨heap_alloc_new _ _,?_,fun i j _=>Or.inl rfl,fun i e=>by simp[ld,Hd.blk]at e⟩,rfl,by simp⟩;intro i
   match i with
   | 0=>exact World.ownsRow_nil _ _ _ _
   | 1=>exact World.ownsRow_nil _ _ _ _
   | m+2=>exact World.ownsRow_nil _ _ _ _
  have HW:=(show Hid _ from hW.symm);clear hW;go_enter Tryz.func261,Tryz.ntmps261
  go_upto_region 8 with fail
  rw[HW.out];have PW:=P.still kW;clear HW p0 p1 p4 ca;go_wp2
  go_loopg [9] (bE l nn).length (fun gk iv wr=>∃(i:Nat) (S:JV) (be:List Ex) (Hs:Nat->Hd),i<=(bE l nn).length/\gk=(bE l nn).length-i/\iv=.int .i64 i/\In S i/\be.map Ex.xs=S.2/\Hid (RR=mN l ((bE l nn).drop i) (((th.map Ex.xs).drop f).drop i) S)/\kK wr w.heap.size S.1 be Hs/\(∀x,fk Hs x->w.heap.size<=x)/\(∀e∈be,e.hd.blk≠some b)/\ab [] w wr)
  case atStart=>exact⟨0,([],[]),[],ld,by omega,by omega,rfl,⟨by simp,by simp⟩,rfl,HRR.out,SI,fun x hx=>by obtain⟨i,hi⟩:=hx;simp[ld,Hd.blk]at hi,by simp,kW⟩
  case round =>
   obtain⟨i,S,be,Hs,hi,hg,rfl,hSo,hbe,hR,hS,hNs,hbn,hK⟩:=hrel
   by_cases hlt:i<(bE l nn).length
   ·obtain⟨us,S2⟩:=S
    simp only at hbe;subst hbe;have Pr:=P.still hK;have hfl:f+i<th.length:=by have:=HFT.out;omega
    have oT:aA wr (H 1) (fn th):=Pr.ply.bag.own 1
    rcases oT.ways with ⟨_,h0,_⟩ | ⟨gt,curt,et,-,et3,-⟩
    ·have:th.length=0:=h0
     omega
    have oH:aA wr (K nn) (bq (bE l nn)):=oa.moved (fun x hx=>hK.block x (oa.lt hx) (by simp))
    rcases oH.ways with ⟨_,h0,_⟩ | ⟨gh,curh,eh,-,eh3,-⟩
    ·have:(bE l nn).length=0:=h0
     omega
    have ch:=oH.cell eh i (.int .i64 (bE l nn)[i]) (ka _ i hlt);have ct:=oT.cell et (f+i) (tB th[f+i]) (pR th (f+i) hfl);obtain rfl:AO=some ⟨gh,0,none⟩:=HAO.out.symm.trans eh;have hcpt:th.length<=(H 1).cap:=et3;have hcph:(bE l nn).length<=(K nn).cap:=eh3;have hfar:=(P.ply.ths th[f+i] (List.getElem_mem hfl));have hhx:=hhlt i hlt;have HFA:=(show Hid _ from hR.out.trans (DR l (bE l nn) ((th.map Ex.xs).drop f) (us,be.map Ex.xs) i hlt (by simp;omega) hhx));have e1:((th.map Ex.xs).drop f)[i]'(by simp;omega)=th[f+i].xs:=by simp
    rw[e1]at HFA;have FOK:=JS l[(bE l nn)[i]] th[f+i].xs (us,be.map Ex.xs) i hSo (by omega);have FT:=fun(w3:World) (k3:ab [] wr w3)=>Jf w.heap.size us be Hs l[(bE l nn)[i]] (HR (10+2*(bE l nn)[i])) (HR (11+2*(bE l nn)[i])) th[f+i].hd th[f+i].xs w3 (hS.still k3) (by have:=hSo.one;simp only at this;omega) (fun e he=>hSo.two _ (List.mem_map_of_mem he)) ((((E.still (Pr.kept.trans k3)).recd.sts.syms _ l[(bE l nn)[i]] (List.getElem?_eq_getElem hhx)).view)) (E.ok.syms _ hhx) ⟨(hfar.1.still (hK.trans k3)).view,fun x hx=>⟨Nat.lt_of_lt_of_le (hfar.1.far x hx).1 (hK.trans k3).size,by have:=(hfar.1.far x hx).1;omega,fun hm=>by have:=hNs x hm;have:=(hfar.1.far x hx).1;omega⟩⟩ (by omega)
    have ST:=fun(w3:World) (k3:ab [] wr w3)=>bb rb ro (bE l nn)[i] l HR w3 (E.still (Pr.kept.trans k3)).recd hhx
    have p4:=Pr.ply.cells.2;have p0:=Pr.ply.ctx.cells.1;rw[et]at p4
    have HPC:Hid (∀w',ab [] w w'->w'.cell? ⟨b,0,none⟩=some (.pointer (some ⟨rb,ro,none⟩))/\w'.cell? ⟨gh,i,none⟩=some (.int .i64 (bE l nn)[i])/\w'.cell? ⟨b,4,none⟩=some (.slice (some ⟨gt,0,none⟩) th.length (H 1).cap)/\w'.cell? ⟨gt,f+i,none⟩=some (tB th[f+i])):=by
     intro w' k;have P':=P.still k;refine⟨P'.ply.ctx.cells.1,(oa.moved (fun x hx=>k.block x (oa.lt hx) (by simp))).cell eh i _ (ka _ i hlt),?_,(P'.ply.bag.own 1).cell et (f+i) (tB th[f+i]) (pR th (f+i) hfl)⟩;rw[<-et];exact P'.ply.cells.2
    have HP9:Hid (∀x,(x=w.heap.size∨fk Hs x)->w.heap.size<=x):=by
     rintro x (e | e)
     ·omega
     ·exact hNs x e
    have HFT2:=(show Hid _ from FT);have HST:=(show Hid _ from ST);have hwrp:IntKind.i64.wrap ((f:Int)+i)=(f:Int)+i:=by rw[IntKind.wrap_i64];omega
    have hfi0:(0:Int)<=(f:Int)+i:=by omega
    have hfi1:(f:Int)+i<th.length:=by omega
    have hti:((f:Int)+i).toNat=f+i:=by omega
    have hfar2:=hfar.1.far;clear FT ST hR e1 oT oH hfar et eh;unfold tB at ct HPC;generalize th[f+i]=ex at *;generalize (bE l nn)[i]=hn1 at *;generalize lA l[hn1] ex.xs (us,be.map Ex.xs)=Q at *;obtain⟨q,S9⟩:=Q;simp only at HFA FOK HFT2;have hfb:ex.hd.blk≠some b:=fun e=>(hfar2 b e).2.1 rfl
    cases hq:(q==0)
    ·have hq':(q != 0)=true:=by simp[bne,hq]
     have HN:Hid (gU l nn vs ms (th.map Ex.xs)=(q,[])):=by show _=_;rw[HF.out,HFA.out,if_neg (by rw[hq];simp)];simp[qM,hq]
     clear HFA
     go_upto_region 11 with fail
     go_region_held3 (fun w'=>w'.cell? ⟨b,0,none⟩=some (.pointer (some ⟨rb,ro,none⟩))/\w'.cell? ⟨gh,i,none⟩=some (.int .i64 hn1)/\w'.cell? ⟨b,4,none⟩=some (.slice (some ⟨gt,0,none⟩) th.length (H 1).cap)/\w'.cell? ⟨gt,f+i,none⟩=some (.slice ex.hd.ao ex.xs.length ex.hd.cap)) (go_keep) (first | (go_at_call 97;refine(HST.out _ (by exact(ab.refl [] _).drew)).mono ?_;rintro e w3 ⟨rfl,k3⟩;obtain⟨x0,x1,x2,x3⟩:=HPC.out w3 (hK.drew.trans k3)) | (go_at_call 272;refine(HFT2.out _ (by exact(ab.refl [] _).drew.trans k3)).mono ?_;rintro e w9 ⟨be9,H9,rfl,SI9,hbe9,T9,hmem9⟩;have K9:=(hK.drew.trans k3).ofP T9.1 HP9.out;obtain⟨z0,z1,z2,z3⟩:=HPC.out w9 K9))
     all_goals
      clear z0 z1 z2 z3 x0 x1 x2 x3;go_wp2
      exact bodyPost_ret (v:=.tuple #[.slice none 0 0,.int .i64 q]) (by simp[results,Tryz.results261,go_sem]) rfl
       ⟨th,⟨⟨none,0⟩,[]⟩,by rw[HN.out];rfl,by rw[HN.out],P.still K9,pU _ _ _,fun hh=>by rw[HN.out]at hh;exact absurd (hq.symm.trans hh) (by simp),Nat.le_refl _⟩
    ·have hq':(q != 0)=false:=by simp[bne,hq]
     have HN:Hid (RR=mN l ((bE l nn).drop (i+1)) (((th.map Ex.xs).drop f).drop (i+1)) S9):=by show _=_;rw[HFA.out,if_pos hq]
     clear HFA
     go_upto_region 11 with fail
     go_region_held3 (fun w'=>w'.cell? ⟨b,0,none⟩=some (.pointer (some ⟨rb,ro,none⟩))/\w'.cell? ⟨gh,i,none⟩=some (.int .i64 hn1)/\w'.cell? ⟨b,4,none⟩=some (.slice (some ⟨gt,0,none⟩) th.length (H 1).cap)/\w'.cell? ⟨gt,f+i,none⟩=some (.slice ex.hd.ao ex.xs.length ex.hd.cap)) (go_keep) (first | (go_at_call 97;refine(HST.out _ (by exact(ab.refl [] _).drew)).mono ?_;rintro e w3 ⟨rfl,k3⟩;obtain⟨x0,x1,x2,x3⟩:=HPC.out w3 (hK.drew.trans k3)) | (go_at_call 272;refine(HFT2.out _ (by exact(ab.refl [] _).drew.trans k3)).mono ?_;rintro e w9 ⟨be9,H9,rfl,SI9,hbe9,T9,hmem9⟩;have K9:=(hK.drew.trans k3).ofP T9.1 HP9.out;obtain⟨z0,z1,z2,z3⟩:=HPC.out w9 K9))
     all_goals
      have hN9:∀x,fk H9 x->w.heap.size<=x:=fun x hx=>by
       rcases T9.2 x hx with e | e
       ·exact hNs x e
       ·exact Nat.le_trans (hK.drew.trans k3).size e
      have hb9:∀e∈be9,e.hd.blk≠some b:=fun e he=>by
       rcases hmem9 e he with q | q
       ·exact hbn e q
       ·rw[q];exact hfb
      clear z0 z1 z2 z3 x0 x1 x2 x3;go_wp2
      go_roundg ((bE l nn).length-(i+1))
      case measure=>omega
      case rel=>exact⟨i+1,S9,be9,H9,by omega,rfl,by go_num,FOK,hbe9,HN.out,SI9,hN9,hb9,K9⟩
   ·obtain⟨us,S2⟩:=S
    simp only at hbe;subst hbe
    have HFE:Hid (gU l nn vs ms (th.map Ex.xs)=qM l nn vs ms l[nn].symbols (0,(us,be.map Ex.xs))):=by
     show _=_
     rw[HF.out,hR.out,Cj _ _ _ _ _ hlt]
    have Pr:=P.still hK;have Er:=E.still Pr.kept;have hul:=hSo.one;simp only at hul;have KA:=uq b rb ro g l.length tb nn w.heap.size l HR vs ms hv hm us be Hs wr Pr.ply.ctx Er.ap E.hml E.hvl Er.recd E.ok hS (by omega) (fun e he=>hSo.two _ (List.mem_map_of_mem he));clear hR
    cases hk:yi l nn (us,be.map Ex.xs) vs ms
    ·have HN:Hid (gU l nn vs ms (th.map Ex.xs)=(9,[])):=by show _=_;rw[HFE.out];simp[qM,hk]
     rw[hk]at KA;clear HFE
     go_upto_region 15 with (go_at_call 273;refine KA.mono ?_;rintro e w2 ⟨rfl,k2⟩)
     go_wp2
     exact bodyPost_ret (v:=.tuple #[.slice none 0 0,.int .i64 9]) (by simp[results,Tryz.results261,go_sem]) rfl
      ⟨th,⟨⟨none,0⟩,[]⟩,by rw[HN.out];rfl,by rw[HN.out],Pr.still k2,pU _ _ _,by rw[HN.out];simp,Nat.le_refl _⟩
    ·have HN:Hid (gU l nn vs ms (th.map Ex.xs)=(0,mh us (be.map Ex.xs) l[nn].symbols)):=by show _=_;rw[HFE.out];simp[qM,hk]
     rw[hk]at KA;clear HFE
     go_upto_region 16 with (go_at_call 273;refine KA.mono ?_;rintro e w2 ⟨rfl,k2⟩)
     have P2:=Pr.still k2;have S2':=hS.still k2;have p4:=P2.ply.cells.2;have y4:=P2.ply.bag.free;have hb2:=P2.ply.bag.lt;have oT:aA w2 (H 1) (fn th):=P2.ply.bag.own 1;have hfth:f<=th.length:=by have:=HFT.out;omega
     have hfi2:(f:Int)<=th.length:=by omega
     have hPb:w.heap.size > b:=P.ply.bag.lt
     rcases oT.ways with ⟨e0,h0,-⟩ | ⟨gt,curt,et,-,et3,-⟩
     ·have h0':th.length=0:=h0
      have hf00:f=0:=by omega
      have HQX:Hid (Value.slice none 0 0=Value.slice (H 1).ao (th.take f).length (H 1).cap):=by show _=_;rw[e0,hf00];rfl
      have HH1:=(show Hid _ from e0);rw[e0,h0']at p4;have hfz:(f:Int)=0:=by omega
      clear e0 h0 h0'
      go_upto_region 17 with fail
      have D5:Hid (aR (w2.setCell ⟨b,4,none⟩ (.slice none 0 0)) b 307 (fO rb ro g l.length tb sh (th.take f) H) (nj sh (th.take f)) H/\aw b w2 H (w2.setCell ⟨b,4,none⟩ (.slice none 0 0)) H):=by
       have q:=P2.ply.bag.reset (rows':=nj sh (th.take f)) 4 (.slice none 0 0) (by
        intro j
        match j with
        | 0=>exact P2.ply.bag.own 0
        | 1=>exact oT.cutE f hfth
        | m+2=>exact P2.ply.bag.own (m+2))
       have e:(fO rb ro g l.length tb sh th H).set 4 (.slice none 0 0)=fO rb ro g l.length tb sh (th.take f) H:=by
        simp only[fO,List.set_cons_succ,List.set_cons_zero];rw[HQX.out]
       rw[e]at q;exact q
      generalize hX:w2.setCell ⟨b,4,none⟩ (.slice none 0 0)=X at D5 ⊢;have kX:ab [] w0 X:=by rw[<-hX];exact P2.kept.setCell (Or.inr P.hb) _
      have PX:kJ w0 X b rb ro g l.length tb sh (th.take f) H:=⟨⟨D5.out.1,fun e he=>⟨(P2.ply.shs e he).1.turned D5.out.2,(P2.ply.shs e he).2⟩,fun e he=>⟨(P2.ply.ths e (List.mem_of_mem_take he)).1.turned D5.out.2,(P2.ply.ths e (List.mem_of_mem_take he)).2⟩⟩,kX,P.hb,P.hin⟩;have kb:dX (fun x=>x=b) w2 X:=by rw[<-hX];exact(dX.refl (fun x=>x=b) w2).setCell (Or.inl (show b=b from rfl)) _
      have SX:kK X w.heap.size us be Hs:=⟨S2'.bag.keptP kb (by omega) (fun x hx=>by have:=hNs x hx;omega),S2'.len,fun e he=>⟨(S2'.exs e he).view.keptP kb (fun x hx e2=>hbn e he (e2 ▸ hx)),(S2'.exs e he).adr,fun x hx=>⟨Nat.lt_of_lt_of_le ((S2'.exs e he).far x hx).1 kb.size,((S2'.exs e he).far x hx).2⟩⟩⟩;have p0:=PX.ply.ctx.cells.1;have hbX:=PX.ply.bag.lt;have hin2:=fun x (hx:fk H x)=>PX.ply.bag.inlt hx
      have hsyl:=E.ok.syms nn hn;have EX:=E.still kX;clear hX p4 y4 KA;go_wp2_with (first | (go_at_call 97;refine(bb rb ro nn l HR _ (by exact EX.recd) hn).mono ?_;rintro e w6 ⟨rfl,k6⟩;unfold eG) | (go_at_call 274;refine(nO w.heap.size us be Hs (HR (10+2*nn)) l[nn].symbols _ (by exact SX.still k6) (by omega) (fun e he=>hSo.two _ (List.mem_map_of_mem he)) (((EX.still k6).recd.sts.syms nn l[nn] (List.getElem?_eq_getElem hn)).view) (by omega)).mono ?_;rintro e w7 ⟨hd,rfl,o7,n7,k7⟩));have k6s:=k6.size
      exact bodyPost_ret (v:=.tuple #[.slice hd.ao (mh us (be.map Ex.xs) l[nn].symbols).length hd.cap,.int .i64 0]) (by simp[results,Tryz.results261,go_sem]) rfl
       ⟨th.take f,⟨hd,mh us (be.map Ex.xs) l[nn].symbols⟩,by rw[HN.out],by rw[HN.out],PX.still (k6.trans k7),⟨o7.view,fun x hx=>⟨o7.lt hx,by have:=n7 x hx;omega,fun hm=>by have:=n7 x hx;have:=hin2 x hm;omega⟩⟩,fun _=>rfl,by simp;omega⟩
     ·have HQX:Hid (Value.slice (some ⟨gt,0,none⟩) f (H 1).cap=Value.slice (H 1).ao (th.take f).length (H 1).cap):=by show _=_;rw[et];simp;omega
      have hcpt:th.length<=(H 1).cap:=et3;have hfc:(f:Int)<=(H 1).cap:=by omega
      rw[et]at p4;clear et
      go_upto_region 17 with fail
      have D5:Hid (aR (w2.setCell ⟨b,4,none⟩ (.slice (some ⟨gt,0,none⟩) f (H 1).cap)) b 307 (fO rb ro g l.length tb sh (th.take f) H) (nj sh (th.take f)) H/\aw b w2 H (w2.setCell ⟨b,4,none⟩ (.slice (some ⟨gt,0,none⟩) f (H 1).cap)) H):=by
       have q:=P2.ply.bag.reset (rows':=nj sh (th.take f)) 4 (.slice (some ⟨gt,0,none⟩) f (H 1).cap) (by
        intro j
        match j with
        | 0=>exact P2.ply.bag.own 0
        | 1=>exact oT.cutE f hfth
        | m+2=>exact P2.ply.bag.own (m+2))
       have e:(fO rb ro g l.length tb sh th H).set 4 (.slice (some ⟨gt,0,none⟩) f (H 1).cap)=fO rb ro g l.length tb sh (th.take f) H:=by
        simp only[fO,List.set_cons_succ,List.set_cons_zero];rw[HQX.out]
       rw[e]at q;exact q
      generalize hX:w2.setCell ⟨b,4,none⟩ (.slice (some ⟨gt,0,none⟩) f (H 1).cap)=X at D5 ⊢;have kX:ab [] w0 X:=by rw[<-hX];exact P2.kept.setCell (Or.inr P.hb) _
      have PX:kJ w0 X b rb ro g l.length tb sh (th.take f) H:=⟨⟨D5.out.1,fun e he=>⟨(P2.ply.shs e he).1.turned D5.out.2,(P2.ply.shs e he).2⟩,fun e he=>⟨(P2.ply.ths e (List.mem_of_mem_take he)).1.turned D5.out.2,(P2.ply.ths e (List.mem_of_mem_take he)).2⟩⟩,kX,P.hb,P.hin⟩;have kb:dX (fun x=>x=b) w2 X:=by rw[<-hX];exact(dX.refl (fun x=>x=b) w2).setCell (Or.inl (show b=b from rfl)) _
      have SX:kK X w.heap.size us be Hs:=⟨S2'.bag.keptP kb (by omega) (fun x hx=>by have:=hNs x hx;omega),S2'.len,fun e he=>⟨(S2'.exs e he).view.keptP kb (fun x hx e2=>hbn e he (e2 ▸ hx)),(S2'.exs e he).adr,fun x hx=>⟨Nat.lt_of_lt_of_le ((S2'.exs e he).far x hx).1 kb.size,((S2'.exs e he).far x hx).2⟩⟩⟩;have p0:=PX.ply.ctx.cells.1;have hbX:=PX.ply.bag.lt;have hin2:=fun x (hx:fk H x)=>PX.ply.bag.inlt hx
      have hsyl:=E.ok.syms nn hn;have EX:=E.still kX;clear hX p4 y4 KA;go_wp2_with (first | (go_at_call 97;refine(bb rb ro nn l HR _ (by exact EX.recd) hn).mono ?_;rintro e w6 ⟨rfl,k6⟩;unfold eG) | (go_at_call 274;refine(nO w.heap.size us be Hs (HR (10+2*nn)) l[nn].symbols _ (by exact SX.still k6) (by omega) (fun e he=>hSo.two _ (List.mem_map_of_mem he)) (((EX.still k6).recd.sts.syms nn l[nn] (List.getElem?_eq_getElem hn)).view) (by omega)).mono ?_;rintro e w7 ⟨hd,rfl,o7,n7,k7⟩));have k6s:=k6.size
      exact bodyPost_ret (v:=.tuple #[.slice hd.ao (mh us (be.map Ex.xs) l[nn].symbols).length hd.cap,.int .i64 0]) (by simp[results,Tryz.results261,go_sem]) rfl
       ⟨th.take f,⟨hd,mh us (be.map Ex.xs) l[nn].symbols⟩,by rw[HN.out],by rw[HN.out],PX.still (k6.trans k7),⟨o7.view,fun x hx=>⟨o7.lt hx,by have:=n7 x hx;omega,fun hm=>by have:=n7 x hx;have:=hin2 x hm;omega⟩⟩,fun _=>rfl,by simp;omega⟩
end
end Go.Proofs.YtpddjjabfbfifaaGreat

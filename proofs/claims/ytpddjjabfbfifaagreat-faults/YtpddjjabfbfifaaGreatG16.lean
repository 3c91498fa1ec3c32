import Derived.Test.YtpddjjabfbfifaaGreatG15
namespace Go.Proofs.YtpddjjabfbfifaaGreat
open Go.RowKit
set_option maxHeartbeats 40000000
def ip(l:List St)(vs:List ByteArray)(ms:List Bool)(sh th:List (List ByteArray))(s:lW):(Int×List ByteArray)×List (List ByteArray) :=
 if(s.kind==3)=true then(if s.number<sh.length then((0,sh.getD s.number []),th) else((5,[]),th))
 else if pW l s.number=true then(gU l s.number vs ms th,th.take (th.length-(bE l s.number).length))
 else((0,(l.getD s.number Lc).symbols),th)
set_option maxRecDepth 100000 in
theorem Hj(w0 w:World)(b rb ro g tb:Nat)(s:lW)(l:List St)(HR K:Nat->Hd)(vs:List ByteArray)(ms:List Bool)(hv hm:Hd)(sh th:List Ex)(H:Nat->Hd)(E:Ag w0 rb ro g tb l HR K vs ms hv hm)(P:kH w0 w b rb ro g l.length tb sh th H)
  (hn:(s.kind==3)=false->s.number<l.length) (hsn:s.number<=2000000) (hth:th.length<=2000000) :
  Calls Tryz.prog 239 #[.pointer (some ⟨b,0,none⟩),.agg #[.int .i64 s.kind,.int .i64 s.number,.string s.at_.file,.int .i64 s.at_.line,.int .i64 s.at_.col]] w fun e w'=>∃(th':List Ex) (ex:Ex),
   e=.returned (.tuple #[.slice ex.hd.ao ex.xs.length ex.hd.cap,.int .i64 (ip l vs ms (sh.map Ex.xs) (th.map Ex.xs) s).1.1])/\ex.xs=(ip l vs ms (sh.map Ex.xs) (th.map Ex.xs) s).1.2/\kH w0 w' b rb ro g l.length tb sh th' H/\oU w' b H ex.hd ex.xs /\
   (((ip l vs ms (sh.map Ex.xs) (th.map Ex.xs) s).1.1==0)=true->th'.map Ex.xs=(ip l vs ms (sh.map Ex.xs) (th.map Ex.xs) s).2)/\th'.length<=th.length:=by
 obtain⟨W,hW⟩:∃W,W=w.alloc (.cells #[.int .i64 s.kind,.int .i64 s.number,.string s.at_.file,.int .i64 s.at_.line,.int .i64 s.at_.col] 174):=⟨_,rfl⟩
 have kW:ab [] w W:=by rw[hW];exact(ab.refl [] _).alloc _
 have B:W.heap[w.heap.size]?=some (.cells #[.int .i64 s.kind,.int .i64 s.number,.string s.at_.file,.int .i64 s.at_.line,.int .i64 s.at_.col] 174 (0,0)):=by rw[hW];exact heap_alloc_new _ _
 have HW:=(show Hid _ from hW.symm);have u0:W.cell? ⟨w.heap.size,0,none⟩=some (.int .i64 s.kind):=by rw[aa B];rfl
 have u1:W.cell? ⟨w.heap.size,1,none⟩=some (.int .i64 s.number):=by rw[aa B];rfl
 have PW:=P.still kW;have EW:=E.still PW.kept;obtain⟨p0,p1,p2⟩:=PW.ply.ctx.cells;obtain⟨p3,p4⟩:=PW.ply.cells;have hbW:=PW.ply.bag.lt;have hwW:=ae B;clear hW
 cases hk:(s.kind==3)
 ·have hn':=hn hk
  have HS:Hid (ip l vs ms (sh.map Ex.xs) (th.map Ex.xs) s=if pW l s.number=true then(gU l s.number vs ms (th.map Ex.xs),(th.map Ex.xs).take (th.length-(bE l s.number).length)) else((0,l[s.number].symbols),th.map Ex.xs)):=by
   show _=_
   unfold ip;rw[hk,List.length_map,List.length_map,wZ l _ hn'];rfl
  have HC:Hid (∀w',ab [] W w'->w'.cell? ⟨b,0,none⟩=some (.pointer (some ⟨rb,ro,none⟩))/\w'.cell? ⟨w.heap.size,1,none⟩=some (.int .i64 s.number)):=by
   intro w' k;refine⟨(PW.still k).ply.ctx.cells.1,?_⟩;rw[aa (k.get B (by simp))];rfl
  have HST:=(show Hid _ from fun(w3:World) (k3:ab [] W w3)=>bb rb ro s.number l HR w3 (EW.still k3).recd hn')
  have HZ:Hid (∀w3,ab [] (W.alloc (.cells #[.int .i64 0,.string ⟨#[]⟩,.slice none 0 0,.slice none 0 0,.string ⟨#[]⟩,.int .i64 0,.int .i64 0,.int .i64 0] 158)).drew w3->w3.cell? ⟨W.heap.size,0,none⟩=some (.int .i64 0)/\w3.cell? ⟨W.heap.size,1,none⟩=some (.string ⟨#[]⟩)/\w3.cell? ⟨W.heap.size,2,none⟩=some (.slice none 0 0)/\w3.cell? ⟨W.heap.size,3,none⟩=some (.slice none 0 0)/\w3.cell? ⟨W.heap.size,4,none⟩=some (.string ⟨#[]⟩)/\w3.cell? ⟨W.heap.size,5,none⟩=some (.int .i64 0)/\w3.cell? ⟨W.heap.size,6,none⟩=some (.int .i64 0)/\w3.cell? ⟨W.heap.size,7,none⟩=some (.int .i64 0)/\∀n,w3.frozen? ⟨W.heap.size,n,none⟩=false):=by
   intro w3 k;have q:=k.get (show(W.alloc (.cells #[.int .i64 0,.string ⟨#[]⟩,.slice none 0 0,.slice none 0 0,.string ⟨#[]⟩,.int .i64 0,.int .i64 0,.int .i64 0] 158)).drew.heap[W.heap.size]?=_ from heap_alloc_new _ _) (by simp);refine⟨?_,?_,?_,?_,?_,?_,?_,?_,fun n=>ak q n⟩ <;> (rw[aa q];rfl)
  have hne1:W.heap.size≠b:=by omega
  have hne2:b≠W.heap.size:=by omega
  have hne3:W.heap.size≠w.heap.size:=by omega
  have hne4:w.heap.size≠W.heap.size:=by omega
  clear p1 p2 p3 p4;go_enter Tryz.func239,Tryz.ntmps239
  go_upto_region 1 with fail
  rw[HW.out]
  go_upto_region 5 with fail
  go_region_held3 (fun w'=>w'.cell? ⟨b,0,none⟩=some (.pointer (some ⟨rb,ro,none⟩))/\w'.cell? ⟨w.heap.size,1,none⟩=some (.int .i64 s.number)) (go_keep) (first | (go_at_call 97;refine(HST.out _ (by exact(ab.refl [] W).drew)).mono ?_;rintro e w3 ⟨rfl,k3⟩;obtain⟨x0,x1⟩:=HC.out w3 ((ab.refl [] _).drew.trans k3);unfold eI) | (go_at_call 97;refine(HST.out _ (by exact((ab.refl [] W).alloc _).drew)).mono ?_;rintro e w3 ⟨rfl,k3⟩;obtain⟨x0,x1⟩:=HC.out w3 (((ab.refl [] W).alloc _).drew.trans k3);obtain⟨q0,q1,q2,q3,q4,q5,q6,q7,qf⟩:=HZ.out w3 k3;unfold eI))
  ·obtain⟨X,hX⟩:∃X,X=w3.alloc (.cells #[.int .i64 l[s.number].kind,.string l[s.number].label,.slice (HR (10+2*s.number)).ao l[s.number].symbols.length (HR (10+2*s.number)).cap,.slice (HR (11+2*s.number)).ao l[s.number].proof.length (HR (11+2*s.number)).cap,.string l[s.number].fin.file,.int .i64 l[s.number].fin.line,.int .i64 l[s.number].fin.col,.int .i64 l[s.number].til] 158):=⟨_,rfl⟩
   have kX:ab [] W X:=by rw[hX];exact((ab.refl [] _).drew.trans k3).alloc _
   have BX:X.heap[w3.heap.size]?=some (.cells #[.int .i64 l[s.number].kind,.string l[s.number].label,.slice (HR (10+2*s.number)).ao l[s.number].symbols.length (HR (10+2*s.number)).cap,.slice (HR (11+2*s.number)).ao l[s.number].proof.length (HR (11+2*s.number)).cap,.string l[s.number].fin.file,.int .i64 l[s.number].fin.line,.int .i64 l[s.number].fin.col,.int .i64 l[s.number].til] 158 (0,0)):=by rw[hX];exact heap_alloc_new _ _
   rw[<-hX];clear hX x0 x1 u0 u1 p0;have m0:X.cell? ⟨w3.heap.size,0,none⟩=some (.int .i64 l[s.number].kind):=by rw[aa BX];rfl
   have m1:X.cell? ⟨w3.heap.size,1,none⟩=some (.string l[s.number].label):=by rw[aa BX];rfl
   have m2:X.cell? ⟨w3.heap.size,2,none⟩=some (.slice (HR (10+2*s.number)).ao l[s.number].symbols.length (HR (10+2*s.number)).cap):=by rw[aa BX];rfl
   have m3:X.cell? ⟨w3.heap.size,3,none⟩=some (.slice (HR (11+2*s.number)).ao l[s.number].proof.length (HR (11+2*s.number)).cap):=by rw[aa BX];rfl
   have m4:X.cell? ⟨w3.heap.size,4,none⟩=some (.string l[s.number].fin.file):=by rw[aa BX];rfl
   have m5:X.cell? ⟨w3.heap.size,5,none⟩=some (.int .i64 l[s.number].fin.line):=by rw[aa BX];rfl
   have m6:X.cell? ⟨w3.heap.size,6,none⟩=some (.int .i64 l[s.number].fin.col):=by rw[aa BX];rfl
   have m7:X.cell? ⟨w3.heap.size,7,none⟩=some (.int .i64 l[s.number].til):=by rw[aa BX];rfl
   have PX:=PW.still kX;have hsX:=ae BX;obtain⟨x0,x1⟩:=HC.out X kX;have HIA:=(show Hid _ from xe l s.number hn')
   cases hia:CH l[s.number].kind
   ·have HF:Hid (ip l vs ms (sh.map Ex.xs) (th.map Ex.xs) s=((0,l[s.number].symbols),th.map Ex.xs)):=by show _=_;rw[HS.out,HIA.out,hia];rfl
    clear HS HIA
    go_upto_region 8 with (go_at_call 160;refine(dr l[s.number].kind _ _ _ _ _ _ _ _).mono ?_;rintro e w5 ⟨rfl,k5⟩;have BX5:=k5.get BX (by simp))
    have m2':w5.cell? ⟨w3.heap.size,2,none⟩=some (.slice (HR (10+2*s.number)).ao l[s.number].symbols.length (HR (10+2*s.number)).cap):=by rw[aa BX5];rfl
    have o0:=E.recd.sts.syms s.number l[s.number] (List.getElem?_eq_getElem hn');have kk:=(kX.trans k5);have P5:=PW.still kk;clear m0 m1 m2 m3 m4 m5 m6 m7;go_wp2
    exact bodyPost_ret (v:=.tuple #[.slice (HR (10+2*s.number)).ao l[s.number].symbols.length (HR (10+2*s.number)).cap,.int .i64 0]) (by simp[results,Tryz.results239,go_sem]) rfl
     ⟨th,⟨HR (10+2*s.number),l[s.number].symbols⟩,by rw[HF.out],by rw[HF.out],P5,⟨o0.view.still P5.kept,fun x hx=>⟨Nat.lt_of_lt_of_le (o0.lt hx) P5.kept.size,by have:=o0.lt hx;have:=P.hb;omega,fun hm=>by have:=P.hin x hm;have:=o0.lt hx;omega⟩⟩,fun _=>by rw[HF.out],Nat.le_refl _⟩
   ·have HF:Hid (ip l vs ms (sh.map Ex.xs) (th.map Ex.xs) s=(gU l s.number vs ms (th.map Ex.xs),(th.map Ex.xs).take (th.length-(bE l s.number).length))):=by show _=_;rw[HS.out,HIA.out,hia];rfl
    have hAt:pW l s.number=true:=by rw[HIA.out,hia]
    clear HS HIA
    go_upto_region 7 with (go_at_call 160;refine(dr l[s.number].kind _ _ _ _ _ _ _ _).mono ?_;rintro e w5 ⟨rfl,k5⟩)
    obtain⟨y0,y1⟩:=HC.out w5 (kX.trans k5);have P5:=PX.still k5;clear m0 m1 m2 m3 m4 m5 m6 m7;go_wp2_with fail;refine(vB w0 w5 b rb ro g tb s.number l HR K vs ms hv hm sh th H E P5 hn' hAt hth).mono ?_;rintro e w6 ⟨th6,ex6,rfl,hx6,P6,F6,hq6,hl6⟩;have HX6:=(show Hid _ from hx6);clear hx6;go_wp2
    exact bodyPost_ret (v:=.tuple #[.slice ex6.hd.ao ex6.xs.length ex6.hd.cap,.int .i64 (gU l s.number vs ms (th.map Ex.xs)).1]) (by simp[results,Tryz.results239,go_sem]) rfl
     ⟨th6,ex6,by rw[HF.out],by rw[HF.out];exact HX6.out,P6,F6,fun hh=>by rw[HF.out]at hh ⊢;rw[hq6 hh,List.map_take],hl6⟩
  ·obtain⟨X,hX⟩:∃X,X=(((((((w3.setCell ⟨W.heap.size,0,none⟩ (.int .i64 l[s.number].kind)).setCell ⟨W.heap.size,1,none⟩ (.string l[s.number].label)).setCell ⟨W.heap.size,2,none⟩ (.slice (HR (10+2*s.number)).ao l[s.number].symbols.length (HR (10+2*s.number)).cap)).setCell ⟨W.heap.size,3,none⟩ (.slice (HR (11+2*s.number)).ao l[s.number].proof.length (HR (11+2*s.number)).cap)).setCell ⟨W.heap.size,4,none⟩ (.string l[s.number].fin.file)).setCell ⟨W.heap.size,5,none⟩ (.int .i64 l[s.number].fin.line)).setCell ⟨W.heap.size,6,none⟩ (.int .i64 l[s.number].fin.col)).setCell ⟨W.heap.size,7,none⟩ (.int .i64 l[s.number].til):=⟨_,rfl⟩
   have k3':=(((ab.refl [] W).alloc _).drew.trans k3);have q3':=k3.get (show(W.alloc (.cells #[.int .i64 0,.string ⟨#[]⟩,.slice none 0 0,.slice none 0 0,.string ⟨#[]⟩,.int .i64 0,.int .i64 0,.int .i64 0] 158)).drew.heap[W.heap.size]?=_ from heap_alloc_new _ _) (by simp);have kX:ab [] W X:=by rw[hX];exact(((((((k3'.setCell (Or.inr (Nat.le_refl _)) _).setCell (Or.inr (Nat.le_refl _)) _).setCell (Or.inr (Nat.le_refl _)) _).setCell (Or.inr (Nat.le_refl _)) _).setCell (Or.inr (Nat.le_refl _)) _).setCell (Or.inr (Nat.le_refl _)) _).setCell (Or.inr (Nat.le_refl _)) _).setCell (Or.inr (Nat.le_refl _)) _
   have BX:X.heap[W.heap.size]?=some (.cells #[.int .i64 l[s.number].kind,.string l[s.number].label,.slice (HR (10+2*s.number)).ao l[s.number].symbols.length (HR (10+2*s.number)).cap,.slice (HR (11+2*s.number)).ao l[s.number].proof.length (HR (11+2*s.number)).cap,.string l[s.number].fin.file,.int .i64 l[s.number].fin.line,.int .i64 l[s.number].fin.col,.int .i64 l[s.number].til] 158 (0,0)):=by
    rw[hX,ah (ah (ah (ah (ah (ah (ah (ah q3' _ _) _ _) _ _) _ _) _ _) _ _) _ _)];rfl
   rw[<-hX];clear hX x0 x1 u0 u1 p0 q0 q1 q2 q3 q4 q5 q6 q7 qf k3' q3';have m0:X.cell? ⟨W.heap.size,0,none⟩=some (.int .i64 l[s.number].kind):=by rw[aa BX];rfl
   have m1:X.cell? ⟨W.heap.size,1,none⟩=some (.string l[s.number].label):=by rw[aa BX];rfl
   have m2:X.cell? ⟨W.heap.size,2,none⟩=some (.slice (HR (10+2*s.number)).ao l[s.number].symbols.length (HR (10+2*s.number)).cap):=by rw[aa BX];rfl
   have m3:X.cell? ⟨W.heap.size,3,none⟩=some (.slice (HR (11+2*s.number)).ao l[s.number].proof.length (HR (11+2*s.number)).cap):=by rw[aa BX];rfl
   have m4:X.cell? ⟨W.heap.size,4,none⟩=some (.string l[s.number].fin.file):=by rw[aa BX];rfl
   have m5:X.cell? ⟨W.heap.size,5,none⟩=some (.int .i64 l[s.number].fin.line):=by rw[aa BX];rfl
   have m6:X.cell? ⟨W.heap.size,6,none⟩=some (.int .i64 l[s.number].fin.col):=by rw[aa BX];rfl
   have m7:X.cell? ⟨W.heap.size,7,none⟩=some (.int .i64 l[s.number].til):=by rw[aa BX];rfl
   have PX:=PW.still kX;have hsX:=ae BX;obtain⟨x0,x1⟩:=HC.out X kX;have HIA:=(show Hid _ from xe l s.number hn')
   cases hia:CH l[s.number].kind
   ·have HF:Hid (ip l vs ms (sh.map Ex.xs) (th.map Ex.xs) s=((0,l[s.number].symbols),th.map Ex.xs)):=by show _=_;rw[HS.out,HIA.out,hia];rfl
    clear HS HIA
    go_upto_region 8 with (go_at_call 160;refine(dr l[s.number].kind _ _ _ _ _ _ _ _).mono ?_;rintro e w5 ⟨rfl,k5⟩;have BX5:=k5.get BX (by simp))
    have m2':w5.cell? ⟨W.heap.size,2,none⟩=some (.slice (HR (10+2*s.number)).ao l[s.number].symbols.length (HR (10+2*s.number)).cap):=by rw[aa BX5];rfl
    have o0:=E.recd.sts.syms s.number l[s.number] (List.getElem?_eq_getElem hn');have kk:=(kX.trans k5);have P5:=PW.still kk;clear m0 m1 m2 m3 m4 m5 m6 m7;go_wp2
    exact bodyPost_ret (v:=.tuple #[.slice (HR (10+2*s.number)).ao l[s.number].symbols.length (HR (10+2*s.number)).cap,.int .i64 0]) (by simp[results,Tryz.results239,go_sem]) rfl
     ⟨th,⟨HR (10+2*s.number),l[s.number].symbols⟩,by rw[HF.out],by rw[HF.out],P5,⟨o0.view.still P5.kept,fun x hx=>⟨Nat.lt_of_lt_of_le (o0.lt hx) P5.kept.size,by have:=o0.lt hx;have:=P.hb;omega,fun hm=>by have:=P.hin x hm;have:=o0.lt hx;omega⟩⟩,fun _=>by rw[HF.out],Nat.le_refl _⟩
   ·have HF:Hid (ip l vs ms (sh.map Ex.xs) (th.map Ex.xs) s=(gU l s.number vs ms (th.map Ex.xs),(th.map Ex.xs).take (th.length-(bE l s.number).length))):=by show _=_;rw[HS.out,HIA.out,hia];rfl
    have hAt:pW l s.number=true:=by rw[HIA.out,hia]
    clear HS HIA
    go_upto_region 7 with (go_at_call 160;refine(dr l[s.number].kind _ _ _ _ _ _ _ _).mono ?_;rintro e w5 ⟨rfl,k5⟩)
    obtain⟨y0,y1⟩:=HC.out w5 (kX.trans k5);have P5:=PX.still k5;clear m0 m1 m2 m3 m4 m5 m6 m7;go_wp2_with fail;refine(vB w0 w5 b rb ro g tb s.number l HR K vs ms hv hm sh th H E P5 hn' hAt hth).mono ?_;rintro e w6 ⟨th6,ex6,rfl,hx6,P6,F6,hq6,hl6⟩;have HX6:=(show Hid _ from hx6);clear hx6;go_wp2
    exact bodyPost_ret (v:=.tuple #[.slice ex6.hd.ao ex6.xs.length ex6.hd.cap,.int .i64 (gU l s.number vs ms (th.map Ex.xs)).1]) (by simp[results,Tryz.results239,go_sem]) rfl
     ⟨th6,ex6,by rw[HF.out],by rw[HF.out];exact HX6.out,P6,F6,fun hh=>by rw[HF.out]at hh ⊢;rw[hq6 hh,List.map_take],hl6⟩
 ·have hd0:decide ((s.number:Int)<0)=false:=by simp
  by_cases hlt:s.number<sh.length
  ·have HF:Hid (ip l vs ms (sh.map Ex.xs) (th.map Ex.xs) s=((0,sh[s.number].xs),th.map Ex.xs)):=by
    show _=_
    unfold ip;rw[hk,if_pos rfl,List.length_map,if_pos hlt,List.getD_eq_getElem?_getD];simp[hlt]
   have hd1:decide ((s.number:Int) ≥ sh.length)=false:=by simp;omega
   have hlti:(s.number:Int)<sh.length:=by omega
   have oS:aA W (H 0) (fn sh):=PW.ply.bag.own 0
   rcases oS.ways with ⟨_,h0,_⟩ | ⟨gs,curs,es,-,es3,-⟩
   ·have:sh.length=0:=h0
    omega
   have cs:=oS.cell es s.number (tF sh[s.number]) (pR sh s.number hlt);have hcp:sh.length<=(H 0).cap:=es3;have hfar:=(PW.ply.shs sh[s.number] (List.getElem_mem hlt)).1;rw[es]at p3;unfold tF at cs;generalize sh[s.number]=ex at *;clear p0 p1 p2 p4 oS es;go_enter Tryz.func239,Tryz.ntmps239
   go_upto_region 1 with fail
   rw[HW.out]
   go_upto_region 2 with fail
   go_quiet (fail)
   go_upto_region 4 with fail
   go_quiet (fail)
   go_wp2
   exact bodyPost_ret (v:=.tuple #[.slice ex.hd.ao ex.xs.length ex.hd.cap,.int .i64 0]) (by simp[results,Tryz.results239,go_sem]) rfl
    ⟨th,ex,by rw[HF.out],by rw[HF.out],PW.still (((ab.refl [] _).drewN _).drewN _),hfar.still (((ab.refl [] _).drewN _).drewN _),fun _=>by rw[HF.out],Nat.le_refl _⟩
  ·have HF:Hid (ip l vs ms (sh.map Ex.xs) (th.map Ex.xs) s=((5,[]),th.map Ex.xs)):=by
    show _=_
    unfold ip;rw[hk,if_pos rfl,List.length_map,if_neg hlt]
   have hd1:decide ((s.number:Int) ≥ sh.length)=true:=by simp;omega
   clear p0 p1 p2 p4;go_enter Tryz.func239,Tryz.ntmps239
   go_upto_region 1 with fail
   rw[HW.out]
   go_upto_region 2 with fail
   go_quiet (fail)
   go_wp2
   exact bodyPost_ret (v:=.tuple #[.slice none 0 0,.int .i64 5]) (by simp[results,Tryz.results239,go_sem]) rfl
    ⟨th,⟨⟨none,0⟩,[]⟩,by rw[HF.out];rfl,by rw[HF.out],PW.still ((ab.refl [] _).drewN _),pS _ _ _,by rw[HF.out];simp,Nat.le_refl _⟩
def lJ(l:List St)(vs:List ByteArray)(ms:List Bool)(S:List (List ByteArray)×List (List ByteArray))(s:lW):Int×List (List ByteArray)×List (List ByteArray) :=
 if((ip l vs ms S.1 S.2 s).1.1==0)=true then
  (if(ip l vs ms S.1 S.2 s).1.2.length<=32 then(0,S.1++[(ip l vs ms S.1 S.2 s).1.2],(ip l vs ms S.1 S.2 s).2++[(ip l vs ms S.1 S.2 s).1.2]) else(10,S))
 else((ip l vs ms S.1 S.2 s).1.1,S)
theorem kH.turned{w0 w w':World}{b rb ro g n tb:Nat}{sh th sh' th':List Ex}{H H':Nat->Hd}(h:kH w0 w b rb ro g n tb sh th H)(t:aw b w H w' H')(bag:aR w' b 307 (fP rb ro g n tb sh' th' H') (nj sh' th') H')
  (hs:∀e∈sh',oU w b H e.hd e.xs/\e.xs.length<=32) (ht:∀e∈th',oU w b H e.hd e.xs/\e.xs.length<=32):kH w0 w' b rb ro g n tb sh' th' H':=by
 refine⟨⟨bag,fun e he=>⟨(hs e he).1.turned t,(hs e he).2⟩,fun e he=>⟨(ht e he).1.turned t,(ht e he).2⟩⟩,h.kept.ofP t.1 ?_,h.hb,fun x hx=>?_⟩
 ·rintro x (e | e)
  ·have:=h.hb;omega
  ·exact h.hin x e
 ·rcases t.2 x hx with e | e
  ·exact h.hin x e
  ·exact Nat.le_trans h.kept.size e
set_option maxRecDepth 100000 in
theorem GO(w0 w:World)(b rb ro g tb:Nat)(s:lW)(l:List St)(HR K:Nat->Hd)(vs:List ByteArray)(ms:List Bool)(hv hm:Hd)(sh th:List Ex)(H:Nat->Hd)(E:Ag w0 rb ro g tb l HR K vs ms hv hm)(P:kH w0 w b rb ro g l.length tb sh th H)
  (hn:(s.kind==3)=false->s.number<l.length) (hsn:s.number<=2000000) (hth:th.length<=2000000) (hsh:sh.length<=2000000) :
  Calls Tryz.prog 210 #[.pointer (some ⟨b,0,none⟩),.agg #[.int .i64 s.kind,.int .i64 s.number,.string s.at_.file,.int .i64 s.at_.line,.int .i64 s.at_.col]] w fun e w'=>∃(sh' th':List Ex) (H':Nat->Hd),
   e=.returned (.int .i64 (lJ l vs ms (sh.map Ex.xs,th.map Ex.xs) s).1)/\kH w0 w' b rb ro g l.length tb sh' th' H' /\
   (((lJ l vs ms (sh.map Ex.xs,th.map Ex.xs) s).1==0)=true->(sh'.map Ex.xs,th'.map Ex.xs)=(lJ l vs ms (sh.map Ex.xs,th.map Ex.xs) s).2)/\th'.length<=th.length+1/\sh'.length<=sh.length+1:=by
 obtain⟨i1,hi1,hy0,hy1,hy2⟩:=info_parts Gv;obtain⟨W,hW⟩:∃W,W=w.alloc (.cells #[.int .i64 s.kind,.int .i64 s.number,.string s.at_.file,.int .i64 s.at_.line,.int .i64 s.at_.col] 174):=⟨_,rfl⟩
 have kW:ab [] w W:=by rw[hW];exact(ab.refl [] _).alloc _
 have B:W.heap[w.heap.size]?=some (.cells #[.int .i64 s.kind,.int .i64 s.number,.string s.at_.file,.int .i64 s.at_.line,.int .i64 s.at_.col] 174 (0,0)):=by rw[hW];exact heap_alloc_new _ _
 have HW:=(show Hid _ from hW.symm);have u0:W.cell? ⟨w.heap.size,0,none⟩=some (.int .i64 s.kind):=by rw[aa B];rfl
 have u1:W.cell? ⟨w.heap.size,1,none⟩=some (.int .i64 s.number):=by rw[aa B];rfl
 have u2:W.cell? ⟨w.heap.size,2,none⟩=some (.string s.at_.file):=by rw[aa B];rfl
 have u3:W.cell? ⟨w.heap.size,3,none⟩=some (.int .i64 s.at_.line):=by rw[aa B];rfl
 have u4:W.cell? ⟨w.heap.size,4,none⟩=some (.int .i64 s.at_.col):=by rw[aa B];rfl
 have PW:=P.still kW;have SH:=Hj w0 W b rb ro g tb s l HR K vs ms hv hm sh th H E PW hn hsn hth
 have HPF:Hid (∀q,ip l vs ms (sh.map Ex.xs) (th.map Ex.xs) s=q->lJ l vs ms (sh.map Ex.xs,th.map Ex.xs) s=if(q.1.1==0)=true then(if q.1.2.length<=32 then(0,sh.map Ex.xs++[q.1.2],q.2++[q.1.2]) else(10,sh.map Ex.xs,th.map Ex.xs)) else(q.1.1,sh.map Ex.xs,th.map Ex.xs)):=by
  intro q hq;subst hq;rfl
 have HP2:=(show Hid _ from HPF.out _ rfl);generalize ip l vs ms (sh.map Ex.xs) (th.map Ex.xs) s=Q at *;obtain⟨⟨q,xs⟩,t2⟩:=Q;simp only at SH HP2;clear hW HPF B;go_enter Tryz.func210,Tryz.ntmps210
 go_upto_region 1 with fail
 rw[HW.out];go_wp2_with fail;refine SH.mono ?_;rintro e w2 ⟨th2,ex,rfl,hx2,P2,F2,hq2,hl2⟩;subst hx2
 cases hq:(q==0)
 ·have hq':(q != 0)=true:=by simp[bne,hq]
  have HF:Hid (lJ l vs ms (sh.map Ex.xs,th.map Ex.xs) s=(q,sh.map Ex.xs,th.map Ex.xs)):=by show _=_;rw[HP2.out,hq];rfl
  clear HP2 SH u0 u1 u2 u3 u4;go_wp2;go_ret;exact⟨sh,th2,H,am (by rw[HF.out]),P2,fun hh=>by rw[HF.out]at hh;exact absurd (hq.symm.trans hh) (by simp),by omega,by omega⟩
 ·have hq':(q != 0)=false:=by simp[bne,hq]
  by_cases hlen:ex.xs.length<=32
  ·have hli:¬((ex.xs.length:Int) > 32):=by omega
   have HF:Hid (lJ l vs ms (sh.map Ex.xs,th.map Ex.xs) s=(0,sh.map Ex.xs++[ex.xs],t2++[ex.xs])):=by show _=_;rw[HP2.out,hq,if_pos rfl,if_pos hlen]
   have HQ2:=(show Hid _ from hq2 hq);clear HP2 SH u0 u1 u2 u3 u4 hq2
   go_upto_region 6 with fail
   have D2:=P2.ply.bag;have p3:=P2.ply.cells.1;have y3:=D2.free;have hb2:=D2.lt;have hA3:=D2.still ((ab.refl [] w2).alloc (.cells #[.slice ex.hd.ao ex.xs.length ex.hd.cap] 61))
   have hrw:Hid (∀j,j≠0->nj (sh++[ex]) th2 j=nj sh th2 j):=by
    intro j hj
    match j,hj with
    | 0,hj=>exact absurd rfl hj
    | 1,_=>rfl
    | m+2,_=>rfl
   have hrw1:Hid (∀j,j≠1->nj (sh++[ex]) (th2++[ex]) j=nj (sh++[ex]) th2 j):=by
    intro j hj
    match j,hj with
    | 0,_=>rfl
    | 1,hj=>exact absurd rfl hj
    | m+2,_=>rfl
   go_wp2_with (at_builtin;refine aM _ rfl (.tmp 23) (.tmp 25) 218 rfl i1 (.slice none 0 0) 24 (H 0) (fn sh) Tryz.underlying218 hi1 hy0 hy1 hy2 rfl Nat.one_pos rfl (by exact hA3.own 0) ⟨_,0,none⟩ 1 1 [.slice ex.hd.ao ex.xs.length ex.hd.cap] rfl rfl ?e1 ?e2 Nat.one_pos ?e3 ?e4 ?_)
   case e1=>intro j u hj;match j,hj with | 0,hj=>simp at hj;subst hj;simp[Addr.add]
   case e2=>intro u hu;simp at hu;subst hu;rfl
   case e3=>simp only[fn];unfold maxLen;omega
   case e4=>simp only[fn];omega
   intro g4 cap4 w4 hw4 hgr4 hfresh4;obtain⟨k4,f4,HP4⟩:=hA3.app (cs':=fP rb ro g l.length tb (sh++[ex]) th2 (fM H 0 ⟨some ⟨g4,0,none⟩,cap4⟩)) (rows':=nj (sh++[ex]) th2) 3 0 g4 cap4 ((fn sh).n+1) _ hw4 (rg sh ex) hgr4 (by simpa using hfresh4) hrw.out (.slice (H 0).ao sh.length (H 0).cap) rfl (by simp[fP,fM,fn]);clear hw4 hgr4 hfresh4 hA3 p3 y3
   go_upto_region 7 with fail
   generalize hX:w4.setCell ⟨b,3,none⟩ (.slice (some ⟨g4,0,none⟩) ((fn sh).n+1) cap4)=X at HP4 ⊢;have DX:=HP4.out.1;have TX:=(show Hid _ from HP4.out.2.first ((ab.refl [] _).alloc _));have p4:=DX.cell 4;simp only[fP,List.getElem?_cons_succ,List.getElem?_cons_zero]at p4;have y4:=DX.free;have hbX:=DX.lt;have hA5:=DX.still ((ab.refl [] X).alloc (.cells #[.slice ex.hd.ao ex.xs.length ex.hd.cap] 61));clear hX k4 f4;go_wp2_with (at_builtin;refine aM _ rfl (.tmp 33) (.tmp 35) 218 rfl i1 (.slice none 0 0) 24 (fM H 0 ⟨some ⟨g4,0,none⟩,cap4⟩ 1) (fn th2) Tryz.underlying218 hi1 hy0 hy1 hy2 rfl Nat.one_pos rfl (by exact hA5.own 1) ⟨_,0,none⟩ 1 1 [.slice ex.hd.ao ex.xs.length ex.hd.cap] rfl rfl ?e1 ?e2 Nat.one_pos ?e3 ?e4 ?_)
   case e1=>intro j u hj;match j,hj with | 0,hj=>simp at hj;subst hj;simp[Addr.add]
   case e2=>intro u hu;simp at hu;subst hu;rfl
   case e3=>simp only[fn];unfold maxLen;omega
   case e4=>simp only[fn];omega
   intro g6 cap6 w6 hw6 hgr6 hfresh6;obtain⟨k6,f6,HP6⟩:=hA5.app (cs':=fP rb ro g l.length tb (sh++[ex]) (th2++[ex]) (fM (fM H 0 ⟨some ⟨g4,0,none⟩,cap4⟩) 1 ⟨some ⟨g6,0,none⟩,cap6⟩)) (rows':=nj (sh++[ex]) (th2++[ex])) 4 1 g6 cap6 ((fn th2).n+1) _ hw6 (rg th2 ex) hgr6 (by simpa using hfresh6) hrw1.out (.slice (fM H 0 ⟨some ⟨g4,0,none⟩,cap4⟩ 1).ao th2.length (fM H 0 ⟨some ⟨g4,0,none⟩,cap4⟩ 1).cap) rfl (by simp[fP,fM,fn]);have T6:=(show Hid _ from aw.trans TX.out (HP6.out.2.first ((ab.refl [] _).alloc _)));clear hw6 hgr6 hfresh6 hA5 p4 y4;go_wp2;go_ret;refine⟨sh++[ex],th2++[ex],_,am (by rw[HF.out]),P2.turned T6.out HP6.out.1 (fun e he=>?_) (fun e he=>?_),fun _=>by rw[HF.out];simp[HQ2.out],by simp;omega,by simp⟩
   ·rw[List.mem_append]at he
    rcases he with he | he
    ·exact P2.ply.shs e he
    ·simp at he;subst he;exact⟨F2,hlen⟩
   ·rw[List.mem_append]at he
    rcases he with he | he
    ·exact P2.ply.ths e he
    ·simp at he;subst he;exact⟨F2,hlen⟩
  ·have hli:(ex.xs.length:Int) > 32:=by omega
   have HF:Hid (lJ l vs ms (sh.map Ex.xs,th.map Ex.xs) s=(10,sh.map Ex.xs,th.map Ex.xs)):=by show _=_;rw[HP2.out,hq,if_pos rfl,if_neg hlen]
   clear HP2 SH u0 u1 u2 u3 u4;go_wp2;go_ret;exact⟨sh,th2,H,am (by rw[HF.out]),P2,by rw[HF.out];simp,by omega,by omega⟩
def J9(fin:Pl)(goal:List ByteArray)(th:List (List ByteArray)):oG :=
 match th with
 | []=>(12,fin)
 | [x]=>if Ab x goal=true then cJ else(12,fin)
 | _ :: _ :: _=>(11,fin)
def mP(l:List St)(vs:List ByteArray)(ms:List Bool)(fin:Pl)(goal:List ByteArray):List lW->List (List ByteArray)×List (List ByteArray)->oG
 | [],S=>J9 fin goal S.2
 | s :: r,S=>if((lJ l vs ms S s).1==0)=true then mP l vs ms fin goal r (lJ l vs ms S s).2 else((lJ l vs ms S s).1,s.at_)
def fC(l:List St)(a:Nat)(s:St)(steps:List lW):oG:=mP l (vC l a) (jT l a (vC l a)) s.fin s.symbols steps ([],[])
theorem Bk(l:List St)(vs:List ByteArray)(ms:List Bool)(fin:Pl)(goal:List ByteArray)(steps:List lW)(S:List (List ByteArray)×List (List ByteArray))(i:Nat)(hi:i<steps.length) :
  mP l vs ms fin goal (steps.drop i) S=if((lJ l vs ms S steps[i]).1==0)=true then mP l vs ms fin goal (steps.drop (i+1)) (lJ l vs ms S steps[i]).2 else((lJ l vs ms S steps[i]).1,steps[i].at_):=by
 rw[List.drop_eq_getElem_cons hi];rfl
theorem zl(l:List St)(vs:List ByteArray)(ms:List Bool)(fin:Pl)(goal:List ByteArray)(steps:List lW)(S:List (List ByteArray)×List (List ByteArray))(i:Nat)(hi:¬i<steps.length) :
  mP l vs ms fin goal (steps.drop i) S=J9 fin goal S.2:=by
 rw[List.drop_of_length_le (by omega)];rfl
theorem E6(l:List lW)(k:Nat)(hk:k<l.length)(j:Nat)(hj:j<5):(uF l)[k*5+j]?=(jK l[k])[j]?:=by
 induction l generalizing k with
 | nil=>simp at hk
 | cons s r ih =>
  have e:uF (s :: r)=jK s++uF r:=rfl;rw[e]
  cases k with
  | zero=>rw[List.getElem?_append_left (by simp[jK];omega)];simp
  | succ k =>
   rw[List.getElem?_append_right (by simp[jK];omega)];have e2:(k+1)*5+j-(jK s).length=k*5+j:=by simp[jK];omega
   rw[e2,ih k (by simpa using hk)];rfl
theorem aA.step{w:World}{h:Hd}{l:List lW}(o:aA w h (fq l))(k:Nat)(hk:k<l.length) :
  ∃g,h.ao=some ⟨g,0,none⟩/\l.length<=h.cap/\h.cap<=9223372036854775807/\w.cell? ⟨g,k*5,none⟩=some (.int .i64 l[k].kind)/\w.cell? ⟨g,k*5+1,none⟩=some (.int .i64 l[k].number)/\w.cell? ⟨g,k*5+2,none⟩=some (.string l[k].at_.file)/\w.cell? ⟨g,k*5+3,none⟩=some (.int .i64 l[k].at_.line)/\w.cell? ⟨g,k*5+4,none⟩=some (.int .i64 l[k].at_.col):=by
 rcases o.ways with ⟨_,h0,_⟩ | ⟨g,cur,e1,e2,e3,e4,-⟩
 ·have:l.length=0:=h0
  omega
 ·have c:=fun j (hj:j<5) v (hv:(jK l[k])[j]?=some v)=>o.cell e1 (k*5+j) v ((E6 l k hk j hj).trans hv)
  exact⟨g,e1,e3,by unfold maxLen at e4;exact e4,c 0 (by omega) _ rfl,c 1 (by omega) _ rfl,c 2 (by omega) _ rfl,c 3 (by omega) _ rfl,c 4 (by omega) _ rfl⟩
structure Co(l:List St)(steps:List lW):Prop where
 len:steps.length<=1100000
 num:∀s∈steps,s.number<=2000000
 named:∀s∈steps,(s.kind==3)=false->s.number<l.length
set_option maxRecDepth 100000 in
theorem Fv(rb ro g a:Nat)(l:List St)(HR K:Nat->Hd)(hst:Hd)(steps:List lW)(w:World)(hr:eu w rb ro l HR)(ok:jH l)(ha:a<l.length)(hall:fJ w g l l.length K)(hO:aA w hst (fq steps))(hso:Co l steps) :
  Calls Tryz.prog 162 #[.pointer (some ⟨rb,ro,none⟩),.int .i64 a,.slice (some ⟨g,0,none⟩) l.length l.length,.slice hst.ao steps.length hst.cap] w fun e w' =>
   e=.returned (gu (fC l a l[a] steps))/\ab [] w w':=by
 have hbw:=hr.lt;have hlen:=ok.len;have hsl:=hso.len;have hyl:=ok.syms a ha;obtain⟨AO,HAO⟩:∃AO,Hid (hst.ao=AO):=⟨_,rfl⟩
 rw[HAO.out];obtain⟨W,hW⟩:∃W,W=w.alloc (.cells #[.int .i64 0,.string ⟨#[]⟩,.int .i64 0,.int .i64 0] 165):=⟨_,rfl⟩
 have kW:ab [] w W:=by rw[hW];exact(ab.refl [] _).alloc _
 have BF:W.heap[w.heap.size]?=some (.cells a9 165 (0,0)):=by rw[hW];exact heap_alloc_new _ _
 have HW:=(show Hid _ from hW.symm);have hvl:(vC l a).length<=l.length:=xY l a l.length;clear hW;go_enter Tryz.func162,Tryz.ntmps162
 go_upto_region 1 with fail
 rw[HW.out]
 go_upto_region 2 with (go_at_call 208;refine(ox rb ro a l HR _ (by exact hr.still kW) ok).mono ?_;rintro e w2 ⟨hva,rfl,hOv,hNv,k2⟩)
 have K2:=kW.trans k2;go_wp2_with (go_at_call 209;refine(FI rb ro a l HR hva (vC l a) _ (by exact hr.still K2) ok (by exact hOv) (by omega)).mono ?_;rintro e w3 ⟨tb,hv,hm,rfl,A3,ht3,hn3,k3⟩);have K3:=K2.trans k3;have BF3:=(k2.trans k3).get BF (by simp);have E:Ag w3 rb ro g tb l HR K (vC l a) (jT l a (vC l a)) hv hm:=⟨hr.still K3,ok,hall.still K3,A3,lI _ _ _ _,by omega⟩;have hO3:aA w3 hst (fq steps):=hO.moved (fun x hx=>K3.block x (hO.lt hx) (by simp))
 have P4:kH w3 (w3.alloc (.cells #[.pointer (some ⟨rb,ro,none⟩),.slice (some ⟨g,0,none⟩) l.length l.length,.pointer (some ⟨tb,0,none⟩),.slice none 0 0,.slice none 0 0] 307)) w3.heap.size rb ro g l.length tb [] [] ln:=by
  refine⟨⟨⟨heap_alloc_new _ _,?_,fun i j _=>Or.inl rfl,fun i e=>by simp[ln,Hd.blk]at e⟩,by simp,by simp⟩,(ab.refl [] _).alloc _,Nat.le_refl _,fun x hx=>by obtain⟨i,hi⟩:=hx;simp[ln,Hd.blk]at hi⟩;intro i
  match i with
  | 0=>exact World.ownsRow_nil _ _ _ _
  | 1=>exact World.ownsRow_nil _ _ _ _
  | m+2=>exact World.ownsRow_nil _ _ _ _
 have hs3:=ae BF3
 go_loopg [11] steps.length (fun gk iv wr=>∃(i:Nat) (sh th:List Ex) (H:Nat->Hd),i<=steps.length/\gk=steps.length-i/\iv=.int .i64 i/\sh.length<=i/\th.length<=i/\Hid (fC l a l[a] steps=mP l (vC l a) (jT l a (vC l a)) l[a].fin l[a].symbols (steps.drop i) (sh.map Ex.xs,th.map Ex.xs))/\kH w3 wr w3.heap.size rb ro g l.length tb sh th H)
 case atStart=>exact⟨0,[],[],ln,by omega,by omega,rfl,by simp,by simp,rfl,P4⟩
 case round =>
  obtain⟨i,sh,th,H,hi,hg,rfl,hsh,hth,hR,P⟩:=hrel;clear P4;have B:=P.kept.get BF3 (by simp);obtain⟨z0,z1,z2,z3⟩:=cD B;have yz:=ak B;have KW:=K3.trans P.kept;have HKR:=(show Hid _ from fun a0 a1 a2 a3=>jq (F:=w.heap.size) KW (Nat.le_refl _) a0 a1 a2 a3)
  by_cases hlt:i<steps.length
  ·have hOr:aA wr hst (fq steps):=hO3.moved (fun x hx=>P.kept.block x (hO3.lt hx) (by simp))
   obtain⟨gp,ep,ecap,ecap2,d0,d1,d2,d3,d4⟩:=hOr.step i hlt;obtain rfl:AO=some ⟨gp,0,none⟩:=HAO.out.symm.trans ep;have hgp:gp<wr.heap.size:=hOr.lt (by unfold Hd.blk;rw[ep];rfl);have h1:=hso.num steps[i] (List.getElem_mem hlt);have h2:=hso.named steps[i] (List.getElem_mem hlt);have HRN:=(show Hid _ from hR.out.trans (Bk l (vC l a) (jT l a (vC l a)) l[a].fin l[a].symbols steps (sh.map Ex.xs,th.map Ex.xs) i hlt));have PA:=GO w3 wr w3.heap.size rb ro g tb steps[i] l HR K (vC l a) (jT l a (vC l a)) hv hm sh th H E P h2 h1 (by omega) (by omega)
   have HDC:Hid (∀w',ab [] w3 w'->w'.cell? ⟨gp,i*5+2,none⟩=some (.string steps[i].at_.file)/\w'.cell? ⟨gp,i*5+3,none⟩=some (.int .i64 steps[i].at_.line)/\w'.cell? ⟨gp,i*5+4,none⟩=some (.int .i64 steps[i].at_.col)):=by
    intro w' k;obtain⟨gp',ep',-,-,-,-,q2,q3,q4⟩:=(hO3.moved (w':=w') (fun x hx=>k.block x (hO3.lt hx) (by simp))).step i hlt;rw[ep]at ep'
    cases ep'
    exact⟨q2,q3,q4⟩
   clear hR ep hOr;generalize steps[i]=st at *;obtain⟨sk,sn,spf,spl,spc⟩:=st;simp only at d0 d1 d2 d3 d4 PA HDC HRN;generalize lJ l (vC l a) (jT l a (vC l a)) (sh.map Ex.xs,th.map Ex.xs) ⟨sk,sn,⟨spf,spl,spc⟩⟩=Q at *;obtain⟨q,Q2⟩:=Q;simp only at PA HRN
   cases hq:(q==0)
   ·have hq':(q != 0)=true:=by simp[bne,hq]
    have HF:Hid (fC l a l[a] steps=(q,⟨spf,spl,spc⟩)):=by show _=_;rw[HRN.out,if_neg (by rw[hq];simp)]
    clear HRN
    go_upto_region 8 with (go_at_call 210;refine PA.mono ?_;rintro e w5 ⟨sh5,th5,H5,rfl,P5,hS5,-,-⟩)
    obtain⟨c2,c3,c4⟩:=HDC.out w5 P5.kept;have B5:=P5.kept.get BF3 (by simp);clear z0 z1 z2 z3 yz d0 d1 d2 d3 d4 HKR;obtain⟨z0,z1,z2,z3⟩:=cD B5;have yz:=ak B5;have K5:=K3.trans P5.kept;go_wp2
    exact bodyPost_ret (v:=.agg #[.int .i64 q,.string spf,.int .i64 spl,.int .i64 spc]) (by simp[results,Tryz.results162,go_sem,z0,z1,z2,z3]) rfl
     ⟨by rw[HF.out];rfl,jq (F:=w.heap.size) K5 (Nat.le_refl _) _ _ _ _⟩
   ·have hq':(q != 0)=false:=by simp[bne,hq]
    have HF:Hid (fC l a l[a] steps=mP l (vC l a) (jT l a (vC l a)) l[a].fin l[a].symbols (steps.drop (i+1)) Q2):=by show _=_;rw[HRN.out,if_pos hq]
    clear HRN;go_wp2_with (go_at_call 210;refine PA.mono ?_;rintro e w5 ⟨sh5,th5,H5,rfl,P5,hS5,hl5,hl6⟩)
    go_roundg (steps.length-(i+1))
    case measure=>omega
    case rel=>exact⟨i+1,sh5,th5,H5,by omega,rfl,by go_num,by omega,by omega,by show _=_;rw[hS5 hq];exact HF.out,P5⟩
  ·have HE:=(show Hid _ from hR.out.trans (zl l (vC l a) (jT l a (vC l a)) l[a].fin l[a].symbols steps (sh.map Ex.xs,th.map Ex.xs) i hlt))
   have Er:=E.still P.kept;clear hR
   go_upto_region 10 with (go_at_call 97;refine(bb rb ro a l HR _ (by exact Er.recd) ha).mono ?_;rintro e w5 ⟨rfl,k5⟩;unfold eI)
   obtain⟨X,hX⟩:∃X,X=w5.alloc (.cells #[.int .i64 l[a].kind,.string l[a].label,.slice (HR (10+2*a)).ao l[a].symbols.length (HR (10+2*a)).cap,.slice (HR (11+2*a)).ao l[a].proof.length (HR (11+2*a)).cap,.string l[a].fin.file,.int .i64 l[a].fin.line,.int .i64 l[a].fin.col,.int .i64 l[a].til] 158):=⟨_,rfl⟩
   have kX:ab [] wr X:=by rw[hX];exact k5.alloc _
   have BX:X.heap[w5.heap.size]?=some (.cells #[.int .i64 l[a].kind,.string l[a].label,.slice (HR (10+2*a)).ao l[a].symbols.length (HR (10+2*a)).cap,.slice (HR (11+2*a)).ao l[a].proof.length (HR (11+2*a)).cap,.string l[a].fin.file,.int .i64 l[a].fin.line,.int .i64 l[a].fin.col,.int .i64 l[a].til] 158 (0,0)):=by rw[hX];exact heap_alloc_new _ _
   rw[<-hX];have PX:=P.still kX;have B5:=kX.get B (by simp);clear hX z0 z1 z2 z3 yz;obtain⟨z0,z1,z2,z3⟩:=cD B5;have yz:=ak B5;have KX:=KW.trans kX;have m2:X.cell? ⟨w5.heap.size,2,none⟩=some (.slice (HR (10+2*a)).ao l[a].symbols.length (HR (10+2*a)).cap):=by rw[aa BX];rfl
   have m4:X.cell? ⟨w5.heap.size,4,none⟩=some (.string l[a].fin.file):=by rw[aa BX];rfl
   have m5:X.cell? ⟨w5.heap.size,5,none⟩=some (.int .i64 l[a].fin.line):=by rw[aa BX];rfl
   have m6:X.cell? ⟨w5.heap.size,6,none⟩=some (.int .i64 l[a].fin.col):=by rw[aa BX];rfl
   have p4:=PX.ply.cells.2;have hbX:=PX.ply.bag.lt
   rcases th with _ | ⟨x,th⟩
   ·have HF:Hid (fC l a l[a] steps=(12,l[a].fin)):=HE.out
    simp only[List.length_nil]at p4;clear HE
    go_upto_region 12 with fail
    go_quiet (fail)
    go_wp2
    exact bodyPost_ret (v:=.agg #[.int .i64 12,.string l[a].fin.file,.int .i64 l[a].fin.line,.int .i64 l[a].fin.col]) (by simp[results,Tryz.results162,go_sem,z0,z1,z2,z3]) rfl
     ⟨by rw[HF.out];rfl,jq (F:=w.heap.size) (KX.drewN _) (Nat.le_refl _) _ _ _ _⟩
   ·rcases th with _ | ⟨y,th⟩
    ·have hE:fC l a l[a] steps=if Ab x.xs l[a].symbols=true then cJ else(12,l[a].fin):=HE.out
     have HEH:=(show Hid _ from hE);have oT:aA X (H 1) (fn [x]):=PX.ply.bag.own 1
     rcases oT.ways with ⟨_,h0,_⟩ | ⟨gt,curt,et,-,et3,-⟩
     ·simp[fn]at h0
     have ct:=oT.cell et 0 (tF x) rfl;unfold tF at ct;rw[et]at p4;simp only[List.length_cons,List.length_nil]at p4;have hcpt:1<=(H 1).cap:=et3;have hfar:=(PX.ply.ths x (by simp));have HEQ:=(show Hid _ from fun(w':World) (k:ab [] X w')=>vH x.hd (HR (10+2*a)) x.xs l[a].symbols w' (hfar.1.view.still k) (((Er.still (kX.trans k)).recd.sts.syms a l[a] (List.getElem?_eq_getElem ha)).view) (by omega) (by omega))
     have HC:Hid (∀w',ab [] X w'->w'.cell? ⟨w3.heap.size,4,none⟩=some (.slice (some ⟨gt,0,none⟩) 1 (H 1).cap)/\w'.cell? ⟨gt,0,none⟩=some (.slice x.hd.ao x.xs.length x.hd.cap)/\w'.cell? ⟨w5.heap.size,2,none⟩=some (.slice (HR (10+2*a)).ao l[a].symbols.length (HR (10+2*a)).cap)):=by
      intro w' k;refine⟨?_,((PX.still k).ply.bag.own 1).cell et 0 (tF x) rfl,?_⟩
      ·rw[<-et];exact(PX.still k).ply.cells.2
      ·rw[aa (k.get BX (by simp))];rfl
     clear hE HE et oT
     go_upto_region 12 with fail
     cases heq:Ab x.xs l[a].symbols
     ·have HF:Hid (fC l a l[a] steps=(12,l[a].fin)):=by show _=_;rw[HEH.out,heq];rfl
      rw[heq]at HEQ;clear HEH
      go_region_held3 (fun w'=>w'.cell? ⟨w3.heap.size,4,none⟩=some (.slice (some ⟨gt,0,none⟩) 1 (H 1).cap)/\w'.cell? ⟨gt,0,none⟩=some (.slice x.hd.ao x.xs.length x.hd.cap)/\w'.cell? ⟨w5.heap.size,2,none⟩=some (.slice (HR (10+2*a)).ao l[a].symbols.length (HR (10+2*a)).cap)) (go_keep) (first | (go_at_call 211;refine(HEQ.out _ (by exact(ab.refl [] X).drew)).mono ?_;rintro e w6 ⟨rfl,k6⟩;obtain⟨x0,x1,x2⟩:=HC.out w6 ((ab.refl [] X).drew.trans k6)))
      all_goals
       have kk:=((ab.refl [] X).drew.trans k6);have BX6:=kk.get BX (by simp);have B6:=kk.get B5 (by simp);clear z0 z1 z2 z3 yz m2 m4 m5 m6 p4 ct;obtain⟨z0,z1,z2,z3⟩:=cD B6;have yz:=ak B6;have m4:w6.cell? ⟨w5.heap.size,4,none⟩=some (.string l[a].fin.file):=by rw[aa BX6];rfl
       have m5:w6.cell? ⟨w5.heap.size,5,none⟩=some (.int .i64 l[a].fin.line):=by rw[aa BX6];rfl
       have m6:w6.cell? ⟨w5.heap.size,6,none⟩=some (.int .i64 l[a].fin.col):=by rw[aa BX6];rfl
       go_wp2;exact bodyPost_ret (v:=.agg #[.int .i64 12,.string l[a].fin.file,.int .i64 l[a].fin.line,.int .i64 l[a].fin.col]) (by simp[results,Tryz.results162,go_sem,z0,z1,z2,z3]) rfl ⟨by rw[HF.out];rfl,jq (F:=w.heap.size) (KX.trans kk) (Nat.le_refl _) _ _ _ _⟩
     ·have HF:Hid (fC l a l[a] steps=cJ):=by show _=_;rw[HEH.out,heq];rfl
      rw[heq]at HEQ;clear HEH
      go_region_held3 (fun w'=>w'.cell? ⟨w3.heap.size,4,none⟩=some (.slice (some ⟨gt,0,none⟩) 1 (H 1).cap)/\w'.cell? ⟨gt,0,none⟩=some (.slice x.hd.ao x.xs.length x.hd.cap)/\w'.cell? ⟨w5.heap.size,2,none⟩=some (.slice (HR (10+2*a)).ao l[a].symbols.length (HR (10+2*a)).cap)) (go_keep) (first | (go_at_call 211;refine(HEQ.out _ (by exact(ab.refl [] X).drew)).mono ?_;rintro e w6 ⟨rfl,k6⟩;obtain⟨x0,x1,x2⟩:=HC.out w6 ((ab.refl [] X).drew.trans k6)))
      all_goals
       have kk:=((ab.refl [] X).drew.trans k6);have B6:=kk.get B5 (by simp);clear z0 z1 z2 z3 yz m2 m4 m5 m6 p4 ct;obtain⟨z0,z1,z2,z3⟩:=cD B6;have yz:=ak B6;go_wp2;exact bodyPost_ret (v:=.agg #[.int .i64 0,.string ⟨#[]⟩,.int .i64 0,.int .i64 0]) (by simp[results,Tryz.results162,go_sem,z0,z1,z2,z3]) rfl ⟨by rw[HF.out];rfl,jq (F:=w.heap.size) (KX.trans kk) (Nat.le_refl _) _ _ _ _⟩
    ·have HF:Hid (fC l a l[a] steps=(11,l[a].fin)):=HE.out
     have hgt:((th.length:Int)+1+1 > 1):=by omega
     simp only[List.length_cons]at p4;clear HE;go_wp2
     exact bodyPost_ret (v:=.agg #[.int .i64 11,.string l[a].fin.file,.int .i64 l[a].fin.line,.int .i64 l[a].fin.col]) (by simp[results,Tryz.results162,go_sem,z0,z1,z2,z3]) rfl
      ⟨by rw[HF.out];rfl,jq (F:=w.heap.size) KX (Nat.le_refl _) _ _ _ _⟩
end Go.Proofs.YtpddjjabfbfifaaGreat

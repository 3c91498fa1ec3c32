import Derived.Deep.CutRange
import Derived.Deep.CutBlock
import Derived.Test.YtlbhbocbakijbaaGreatG24
namespace Go.Proofs.YtlbhbocbakijbaaGreat
open Go.RowKit
set_option maxHeartbeats 0
def yF(n:dM)(k a:Int)(s:ByteArray):dM :=
 if k=1 then { n with mod:=ii a 4 }
 else if k=2 then(match aL n.syms s with | none=>{ n with syms:=n.syms++[s],weight:=n.weight++[a] } | some i=>{ n with weight:=n.weight.set i a })
 else if k=3 then(match aL n.codes s with | none=>{ n with codes:=n.codes++[s],masks:=n.masks++[a] } | some i=>{ n with masks:=n.masks.set i a })
 else if k=4 then(match aL n.lin s with | none=>{ n with lin:=n.lin++[s] } | some _=>n)
 else if k=5 then { n with syms:=[],weight:=[],codes:=[],masks:=[],lin:=[] }
 else n
theorem rM(n:dM)(v:List ByteArray):∀j,j≠0->ff { n with syms:=v } j=ff n j:=by
 intro j hj
 match j,hj with
 | 0,hj=>exact absurd rfl hj
 | 1,_=>rfl
 | 2,_=>rfl
 | 3,_=>rfl
 | 4,_=>rfl
 | j+5,_=>rfl
theorem kE(n:dM)(v:List Int):∀j,j≠1->ff { n with weight:=v } j=ff n j:=by
 intro j hj
 match j,hj with
 | 0,_=>rfl
 | 1,hj=>exact absurd rfl hj
 | 2,_=>rfl
 | 3,_=>rfl
 | 4,_=>rfl
 | j+5,_=>rfl
theorem pY(n:dM)(v:List ByteArray):∀j,j≠2->ff { n with codes:=v } j=ff n j:=by
 intro j hj
 match j,hj with
 | 0,_=>rfl
 | 1,_=>rfl
 | 2,hj=>exact absurd rfl hj
 | 3,_=>rfl
 | 4,_=>rfl
 | j+5,_=>rfl
theorem lS(n:dM)(v:List Int):∀j,j≠3->ff { n with masks:=v } j=ff n j:=by
 intro j hj
 match j,hj with
 | 0,_=>rfl
 | 1,_=>rfl
 | 2,_=>rfl
 | 3,hj=>exact absurd rfl hj
 | 4,_=>rfl
 | j+5,_=>rfl
theorem uS(n:dM)(v:List ByteArray):∀j,j≠4->ff { n with lin:=v } j=ff n j:=by
 intro j hj
 match j,hj with
 | 0,_=>rfl
 | 1,_=>rfl
 | 2,_=>rfl
 | 3,_=>rfl
 | 4,hj=>exact absurd rfl hj
 | j+5,_=>rfl
theorem bm.nil_syms{w:World}{b x:Nat}{T:ByteArray}{rv:Value}{n:dM}{H:Nat->Hd}(h:bm w b x T rv n H):bm (w.setCell ⟨b,4,none⟩ (.slice none 0 0)) b x T rv { n with syms:=[] } (cG H 0 ⟨none,0⟩)/\ag b w H (w.setCell ⟨b,4,none⟩ (.slice none 0 0)) (cG H 0 ⟨none,0⟩):=by
 have:=af.put h (rows':=ff { n with syms:=[] }) 4 0 ⟨none,0⟩ (World.ownsRow_nil _ _ _ _) (World.grownBy.refl _ _) (Or.inl rfl) (rM n []) (.slice none 0 0);exact this
theorem bm.nil_weight{w:World}{b x:Nat}{T:ByteArray}{rv:Value}{n:dM}{H:Nat->Hd}(h:bm w b x T rv n H):bm (w.setCell ⟨b,5,none⟩ (.slice none 0 0)) b x T rv { n with weight:=[] } (cG H 1 ⟨none,0⟩)/\ag b w H (w.setCell ⟨b,5,none⟩ (.slice none 0 0)) (cG H 1 ⟨none,0⟩):=by
 have:=af.put h (rows':=ff { n with weight:=[] }) 5 1 ⟨none,0⟩ (World.ownsRow_nil _ _ _ _) (World.grownBy.refl _ _) (Or.inl rfl) (kE n []) (.slice none 0 0);exact this
theorem bm.nil_codes{w:World}{b x:Nat}{T:ByteArray}{rv:Value}{n:dM}{H:Nat->Hd}(h:bm w b x T rv n H):bm (w.setCell ⟨b,6,none⟩ (.slice none 0 0)) b x T rv { n with codes:=[] } (cG H 2 ⟨none,0⟩)/\ag b w H (w.setCell ⟨b,6,none⟩ (.slice none 0 0)) (cG H 2 ⟨none,0⟩):=by
 have:=af.put h (rows':=ff { n with codes:=[] }) 6 2 ⟨none,0⟩ (World.ownsRow_nil _ _ _ _) (World.grownBy.refl _ _) (Or.inl rfl) (pY n []) (.slice none 0 0);exact this
theorem bm.nil_masks{w:World}{b x:Nat}{T:ByteArray}{rv:Value}{n:dM}{H:Nat->Hd}(h:bm w b x T rv n H):bm (w.setCell ⟨b,7,none⟩ (.slice none 0 0)) b x T rv { n with masks:=[] } (cG H 3 ⟨none,0⟩)/\ag b w H (w.setCell ⟨b,7,none⟩ (.slice none 0 0)) (cG H 3 ⟨none,0⟩):=by
 have:=af.put h (rows':=ff { n with masks:=[] }) 7 3 ⟨none,0⟩ (World.ownsRow_nil _ _ _ _) (World.grownBy.refl _ _) (Or.inl rfl) (lS n []) (.slice none 0 0);exact this
theorem bm.nil_lin{w:World}{b x:Nat}{T:ByteArray}{rv:Value}{n:dM}{H:Nat->Hd}(h:bm w b x T rv n H):bm (w.setCell ⟨b,8,none⟩ (.slice none 0 0)) b x T rv { n with lin:=[] } (cG H 4 ⟨none,0⟩)/\ag b w H (w.setCell ⟨b,8,none⟩ (.slice none 0 0)) (cG H 4 ⟨none,0⟩):=by
 have:=af.put h (rows':=ff { n with lin:=[] }) 8 4 ⟨none,0⟩ (World.ownsRow_nil _ _ _ _) (World.grownBy.refl _ _) (Or.inl rfl) (uS n []) (.slice none 0 0);exact this
def lr(b x:Nat)(T:ByteArray)(rv:Value)(n':dM)(w:World)(H:Nat->Hd)(w':World):Prop:=∃H',bm w' b x T rv n' H'/\ag b w H w' H'
set_option maxRecDepth 100000 in
theorem Gr(b x:Nat)(T:ByteArray)(rv:Value)(n:dM)(H:Nat->Hd)(a:Int)(s:ByteArray)(w:World)(h:bm w b x T rv n H)(ok:dH n 1073741824)(_ha:-9223372036854775808<=a/\a<=9223372036854775807) :
  Calls Tryz.prog 9 #[.pointer (some ⟨b,3,none⟩),.agg #[.int .i64 1,.int .i64 a,.string s]] w fun e w'=>e=.returned (.tuple #[])/\lr b x T rv { n with mod:=ii a 4 } w H w':=by
 have l0:=ok.ls;have L1:=(show Hid _ from ok.sw);have l2:=ok.lc;have L3:=(show Hid _ from ok.cm);have l4:=ok.ll;obtain⟨iN,hiN,hzN0,hzN1,hzN2⟩:=info_parts fU;obtain⟨iS,hiS,hzS0,hzS1,hzS2⟩:=info_parts dp;obtain⟨W,HW⟩:∃W,Hid (w.alloc (.cells #[.int .i64 1,.int .i64 a,.string s] 40)=W):=⟨_,rfl⟩
 have kW:aa [] w W:=by rw[<-HW.out];exact(aa.refl [] _).alloc _
 have BW:W.heap[w.heap.size]?=some (.cells #[.int .i64 1,.int .i64 a,.string s] 40 (0,0)):=by rw[<-HW.out];exact heap_alloc_new _ _
 have hobw:=ac BW;obtain⟨ob,HOB⟩:∃ob,Hid (w.heap.size=ob):=⟨_,rfl⟩
 rw[HOB.out]at BW hobw;have o0:W.cell? ⟨ob,0,none⟩=some (.int .i64 1):=by rw[ab BW];rfl
 have o1:W.cell? ⟨ob,1,none⟩=some (.int .i64 a):=by rw[ab BW];rfl
 have o2:W.cell? ⟨ob,2,none⟩=some (.string s):=by rw[ab BW];rfl
 have hB:bm W b x T rv n H:=af.still h kW;have hbW:=af.lt hB;have hfb:=fun i=>af.free hB i
 obtain⟨c3,c4,c5,c6,c7,c8⟩:=bm.in_ hB;have hbo:b≠ob:=by have:=af.lt h;have:=HOB.out;omega
 have hHo:∀q,cK H q->q≠ob:=fun q hq=>by have:=af.inlt h hq;have:=HOB.out;omega
 clear h;go_enter Tryz.func9,Tryz.ntmps9
 go_upto_region 1 with fail
 rw[HW.out,HOB.out];have HPK:=(show Hid _ from yo a 4 W _ha (by omega));go_wp2_with (go_at_call 16;refine Calls.mono HPK.out ?_;rintro e2 w2 ⟨rfl,hw2⟩;rw[hw2];clear hw2);go_end0
 have hr:=af.reset hB (rows':=ff { n with mod:=ii a 4 }) 3 (.int .i64 (ii a 4:Nat)) (fun i=>by
  have:=af.own hB i
  match i,this with
  | 0,t=>exact t
  | 1,t=>exact t
  | 2,t=>exact t
  | 3,t=>exact t
  | 4,t=>exact t
  | i+5,t=>exact t)
 exact⟨rfl,H,hr.1,hr.2.first kW⟩
set_option maxRecDepth 100000 in
theorem Gs(b x:Nat)(T:ByteArray)(rv:Value)(n:dM)(H:Nat->Hd)(a:Int)(s:ByteArray)(w:World)(h:bm w b x T rv n H)(ok:dH n 1073741824)(_ha:-9223372036854775808<=a/\a<=9223372036854775807) :
  Calls Tryz.prog 9 #[.pointer (some ⟨b,3,none⟩),.agg #[.int .i64 5,.int .i64 a,.string s]] w fun e w'=>e=.returned (.tuple #[])/\lr b x T rv { n with syms:=[],weight:=[],codes:=[],masks:=[],lin:=[] } w H w':=by
 have l0:=ok.ls;have L1:=(show Hid _ from ok.sw);have l2:=ok.lc;have L3:=(show Hid _ from ok.cm);have l4:=ok.ll;obtain⟨iN,hiN,hzN0,hzN1,hzN2⟩:=info_parts fU;obtain⟨iS,hiS,hzS0,hzS1,hzS2⟩:=info_parts dp;obtain⟨W,HW⟩:∃W,Hid (w.alloc (.cells #[.int .i64 5,.int .i64 a,.string s] 40)=W):=⟨_,rfl⟩
 have kW:aa [] w W:=by rw[<-HW.out];exact(aa.refl [] _).alloc _
 have BW:W.heap[w.heap.size]?=some (.cells #[.int .i64 5,.int .i64 a,.string s] 40 (0,0)):=by rw[<-HW.out];exact heap_alloc_new _ _
 have hobw:=ac BW;obtain⟨ob,HOB⟩:∃ob,Hid (w.heap.size=ob):=⟨_,rfl⟩
 rw[HOB.out]at BW hobw;have o0:W.cell? ⟨ob,0,none⟩=some (.int .i64 5):=by rw[ab BW];rfl
 have o1:W.cell? ⟨ob,1,none⟩=some (.int .i64 a):=by rw[ab BW];rfl
 have o2:W.cell? ⟨ob,2,none⟩=some (.string s):=by rw[ab BW];rfl
 have hB:bm W b x T rv n H:=af.still h kW;have hbW:=af.lt hB;have hfb:=fun i=>af.free hB i
 obtain⟨c3,c4,c5,c6,c7,c8⟩:=bm.in_ hB;have hbo:b≠ob:=by have:=af.lt h;have:=HOB.out;omega
 have hHo:∀q,cK H q->q≠ob:=fun q hq=>by have:=af.inlt h hq;have:=HOB.out;omega
 clear h;go_enter Tryz.func9,Tryz.ntmps9
 go_upto_region 1 with fail
 rw[HW.out,HOB.out];go_wp2;go_end0;obtain⟨n1,t1⟩:=bm.nil_syms hB;obtain⟨n2,t2⟩:=bm.nil_weight n1;obtain⟨n3,t3⟩:=bm.nil_codes n2;obtain⟨n4,t4⟩:=bm.nil_masks n3;obtain⟨n5,t5⟩:=bm.nil_lin n4;exact⟨rfl,_,n5,ag.first kW (t1.trans (t2.trans (t3.trans (t4.trans t5))))⟩
set_option maxRecDepth 100000 in
theorem Gq(b x:Nat)(T:ByteArray)(rv:Value)(n:dM)(H:Nat->Hd)(a:Int)(s:ByteArray)(w:World)(h:bm w b x T rv n H)(ok:dH n 1073741824)(_ha:-9223372036854775808<=a/\a<=9223372036854775807)(k:Int)(h1:(k==1)=false)(h2:(k==2)=false)(h3:(k==3)=false)(h4:(k==4)=false)(h5:(k==5)=false) :
  Calls Tryz.prog 9 #[.pointer (some ⟨b,3,none⟩),.agg #[.int .i64 k,.int .i64 a,.string s]] w fun e w'=>e=.returned (.tuple #[])/\lr b x T rv n w H w':=by
 have l0:=ok.ls;have L1:=(show Hid _ from ok.sw);have l2:=ok.lc;have L3:=(show Hid _ from ok.cm);have l4:=ok.ll;obtain⟨iN,hiN,hzN0,hzN1,hzN2⟩:=info_parts fU;obtain⟨iS,hiS,hzS0,hzS1,hzS2⟩:=info_parts dp;obtain⟨W,HW⟩:∃W,Hid (w.alloc (.cells #[.int .i64 k,.int .i64 a,.string s] 40)=W):=⟨_,rfl⟩
 have kW:aa [] w W:=by rw[<-HW.out];exact(aa.refl [] _).alloc _
 have BW:W.heap[w.heap.size]?=some (.cells #[.int .i64 k,.int .i64 a,.string s] 40 (0,0)):=by rw[<-HW.out];exact heap_alloc_new _ _
 have hobw:=ac BW;obtain⟨ob,HOB⟩:∃ob,Hid (w.heap.size=ob):=⟨_,rfl⟩
 rw[HOB.out]at BW hobw;have o0:W.cell? ⟨ob,0,none⟩=some (.int .i64 k):=by rw[ab BW];rfl
 have o1:W.cell? ⟨ob,1,none⟩=some (.int .i64 a):=by rw[ab BW];rfl
 have o2:W.cell? ⟨ob,2,none⟩=some (.string s):=by rw[ab BW];rfl
 have hB:bm W b x T rv n H:=af.still h kW;have hbW:=af.lt hB;have hfb:=fun i=>af.free hB i
 obtain⟨c3,c4,c5,c6,c7,c8⟩:=bm.in_ hB;have hbo:b≠ob:=by have:=af.lt h;have:=HOB.out;omega
 have hHo:∀q,cK H q->q≠ob:=fun q hq=>by have:=af.inlt h hq;have:=HOB.out;omega
 clear h;go_enter Tryz.func9,Tryz.ntmps9
 go_upto_region 1 with fail
 rw[HW.out,HOB.out];go_wp2;go_end0;exact⟨rfl,H,hB,ag.first kW (ag.refl _ _ _)⟩
set_option maxRecDepth 100000 in
theorem FE(b x:Nat)(T:ByteArray)(rv:Value)(n:dM)(H:Nat->Hd)(a:Int)(s:ByteArray)(w:World)(h:bm w b x T rv n H)(ok:dH n 1073741824)(_ha:-9223372036854775808<=a/\a<=9223372036854775807)(hp:aL n.lin s=none) :
  Calls Tryz.prog 9 #[.pointer (some ⟨b,3,none⟩),.agg #[.int .i64 4,.int .i64 a,.string s]] w fun e w'=>e=.returned (.tuple #[])/\lr b x T rv { n with lin:=n.lin++[s] } w H w':=by
 have l0:=ok.ls;have L1:=(show Hid _ from ok.sw);have l2:=ok.lc;have L3:=(show Hid _ from ok.cm);have l4:=ok.ll;obtain⟨iN,hiN,hzN0,hzN1,hzN2⟩:=info_parts fU;obtain⟨iS,hiS,hzS0,hzS1,hzS2⟩:=info_parts dp;obtain⟨W,HW⟩:∃W,Hid (w.alloc (.cells #[.int .i64 4,.int .i64 a,.string s] 40)=W):=⟨_,rfl⟩
 have kW:aa [] w W:=by rw[<-HW.out];exact(aa.refl [] _).alloc _
 have BW:W.heap[w.heap.size]?=some (.cells #[.int .i64 4,.int .i64 a,.string s] 40 (0,0)):=by rw[<-HW.out];exact heap_alloc_new _ _
 have hobw:=ac BW;obtain⟨ob,HOB⟩:∃ob,Hid (w.heap.size=ob):=⟨_,rfl⟩
 rw[HOB.out]at BW hobw;have o0:W.cell? ⟨ob,0,none⟩=some (.int .i64 4):=by rw[ab BW];rfl
 have o1:W.cell? ⟨ob,1,none⟩=some (.int .i64 a):=by rw[ab BW];rfl
 have o2:W.cell? ⟨ob,2,none⟩=some (.string s):=by rw[ab BW];rfl
 have hB:bm W b x T rv n H:=af.still h kW;have hbW:=af.lt hB;have hfb:=fun i=>af.free hB i
 obtain⟨c3,c4,c5,c6,c7,c8⟩:=bm.in_ hB;have hbo:b≠ob:=by have:=af.lt h;have:=HOB.out;omega
 have hHo:∀q,cK H q->q≠ob:=fun q hq=>by have:=af.inlt h hq;have:=HOB.out;omega
 clear h;go_enter Tryz.func9,Tryz.ntmps9
 go_upto_region 1 with fail
 rw[HW.out,HOB.out];have HFI:=(show Hid _ from eC (H 4) n.lin s);rw[hp,show bQ none=-1 from rfl]at HFI;have HVW:=(show Hid _ from(af.own hB 4));have HVV:Hid (bH W (H 4) n.lin):=au.view HVW.out
 go_upto_region 17 with fail
 go_region_held3 (fun w'=>w'.cell? ⟨b,8,none⟩=some (.slice (H 4).ao n.lin.length (H 4).cap)/\w'.cell? ⟨ob,2,none⟩=some (.string s)) (go_keep) ((go_at_call 32;refine Calls.mono (HFI.out _ (bH.still HVV.out (by exact(aa.refl [] W).drew)) (by omega)) ?_;rintro e2 w2 ⟨rfl,hw2⟩;rw[hw2];clear hw2))
 have kD:aa [] W W.drew:=(aa.refl [] W).drew;generalize W.drew=V at *;have hBV:bm V b x T rv n H:=af.still hB kD;have hbV:=af.lt hBV;have hfV:=fun i=>af.free hBV i
 have BV:=kD.get BW (by simp);clear o0 o1 o2 c3 c4 c5 c6 c7 c8 hfb HFI HVW HVV;have o1:V.cell? ⟨ob,1,none⟩=some (.int .i64 a):=by rw[ab BV];rfl
 have o2:V.cell? ⟨ob,2,none⟩=some (.string s):=by rw[ab BV];rfl
 have hobV:=ac BV;obtain⟨c3,c4,c5,c6,c7,c8⟩:=bm.in_ hBV
 go_upto_region 19 with fail
 have hD:=(show Hid _ from af.still hBV ((aa.refl [] V).alloc (.cells #[.string s] 9)).drew)
 have s2:Hid (∀j u,([.string s]:List Value)[j]?=some u->(V.alloc (.cells #[.string s] 9)).drew.cell? ((⟨V.heap.size,0,none⟩:Addr).add j)=some u):=by
  intro j u hj;have hk:(V.alloc (.cells #[.string s] 9)).drew.heap[V.heap.size]?=some (.cells #[.string s] 9 (0,0)):=heap_alloc_new _ _;rw[aV,ab hk];simpa using hj
 have s3:Hid (∀u∈([.string s]:List Value),u.oneCell'=true):=by intro u hu;simp at hu;subst hu;rfl
 have s4:Hid ((am n.lin).n+1<=maxLen):=by have:=L1.out;have:=L3.out;show n.lin.length+1<=_;unfold maxLen;omega
 have s5:Hid (((am n.lin).n+1)*16<=140737488355328):=by have:=L1.out;have:=L3.out;show(n.lin.length+1)*16<=_;omega
 go_region_law (refine aC rfl (.tmp 114) (.tmp 117) 22 rfl iS (.string ⟨#[]⟩) 16 (H 4) (am n.lin) Tryz.underlying22 hiS hzS0 hzS1 hzS2 rfl Nat.one_pos (by simp[Act.eval] <;> rfl) (af.own hD.out 4) ⟨V.heap.size,0,none⟩ 1 1 [.string s] (by simp[Act.eval]) rfl s2.out s3.out Nat.one_pos s4.out s5.out ?_;intro g5 cap5 w5 hw5 hgr5 hfr5;obtain⟨k5,f5,HP⟩:=af.app hD.out (cs':=AQ x T rv { n with lin:=n.lin++[s] } (cG H 4 ⟨some ⟨g5,0,none⟩,cap5⟩)) (rows':=ff { n with lin:=n.lin++[s] }) 8 4 g5 cap5 (n.lin.length+1) _ hw5 (bE _ _) hgr5 (by simpa using hfr5) (uS n _) _ rfl (by simp[AQ,cG]);clear hw5 hgr5 hfr5)
 all_goals go_wp2
 all_goals go_end0
 all_goals exact⟨rfl,_,HP.out.1,(HP.out.2.first ((aa.refl [] V).alloc _).drew).first (kW.trans kD)⟩
set_option maxRecDepth 100000 in
theorem FF(b x:Nat)(T:ByteArray)(rv:Value)(n:dM)(H:Nat->Hd)(a:Int)(s:ByteArray)(w:World)(h:bm w b x T rv n H)(ok:dH n 1073741824)(_ha:-9223372036854775808<=a/\a<=9223372036854775807)(i:Nat)(hp:aL n.lin s=some i) :
  Calls Tryz.prog 9 #[.pointer (some ⟨b,3,none⟩),.agg #[.int .i64 4,.int .i64 a,.string s]] w fun e w'=>e=.returned (.tuple #[])/\lr b x T rv n w H w':=by
 have l0:=ok.ls;have L1:=(show Hid _ from ok.sw);have l2:=ok.lc;have L3:=(show Hid _ from ok.cm);have l4:=ok.ll;obtain⟨iN,hiN,hzN0,hzN1,hzN2⟩:=info_parts fU;obtain⟨iS,hiS,hzS0,hzS1,hzS2⟩:=info_parts dp;obtain⟨W,HW⟩:∃W,Hid (w.alloc (.cells #[.int .i64 4,.int .i64 a,.string s] 40)=W):=⟨_,rfl⟩
 have kW:aa [] w W:=by rw[<-HW.out];exact(aa.refl [] _).alloc _
 have BW:W.heap[w.heap.size]?=some (.cells #[.int .i64 4,.int .i64 a,.string s] 40 (0,0)):=by rw[<-HW.out];exact heap_alloc_new _ _
 have hobw:=ac BW;obtain⟨ob,HOB⟩:∃ob,Hid (w.heap.size=ob):=⟨_,rfl⟩
 rw[HOB.out]at BW hobw;have o0:W.cell? ⟨ob,0,none⟩=some (.int .i64 4):=by rw[ab BW];rfl
 have o1:W.cell? ⟨ob,1,none⟩=some (.int .i64 a):=by rw[ab BW];rfl
 have o2:W.cell? ⟨ob,2,none⟩=some (.string s):=by rw[ab BW];rfl
 have hB:bm W b x T rv n H:=af.still h kW;have hbW:=af.lt hB;have hfb:=fun i=>af.free hB i
 obtain⟨c3,c4,c5,c6,c7,c8⟩:=bm.in_ hB;have hbo:b≠ob:=by have:=af.lt h;have:=HOB.out;omega
 have hHo:∀q,cK H q->q≠ob:=fun q hq=>by have:=af.inlt h hq;have:=HOB.out;omega
 clear h;go_enter Tryz.func9,Tryz.ntmps9
 go_upto_region 1 with fail
 rw[HW.out,HOB.out];have HFI:=(show Hid _ from eC (H 4) n.lin s);rw[hp,show bQ (some i)=(i:Int) from rfl]at HFI;have HVW:=(show Hid _ from(af.own hB 4));have HVV:Hid (bH W (H 4) n.lin):=au.view HVW.out
 go_upto_region 17 with fail
 go_region_held3 (fun w'=>w'.cell? ⟨b,8,none⟩=some (.slice (H 4).ao n.lin.length (H 4).cap)/\w'.cell? ⟨ob,2,none⟩=some (.string s)) (go_keep) ((go_at_call 32;refine Calls.mono (HFI.out _ (bH.still HVV.out (by exact(aa.refl [] W).drew)) (by omega)) ?_;rintro e2 w2 ⟨rfl,hw2⟩;rw[hw2];clear hw2))
 have kD:aa [] W W.drew:=(aa.refl [] W).drew;generalize W.drew=V at *;have hBV:bm V b x T rv n H:=af.still hB kD;have hbV:=af.lt hBV;have hfV:=fun i=>af.free hBV i
 have BV:=kD.get BW (by simp);clear o0 o1 o2 c3 c4 c5 c6 c7 c8 hfb HFI HVW HVV;have o1:V.cell? ⟨ob,1,none⟩=some (.int .i64 a):=by rw[ab BV];rfl
 have o2:V.cell? ⟨ob,2,none⟩=some (.string s):=by rw[ab BV];rfl
 have hobV:=ac BV;obtain⟨c3,c4,c5,c6,c7,c8⟩:=bm.in_ hBV;go_wp2;go_end0;exact⟨rfl,H,hBV,ag.first (kW.trans kD) (ag.refl _ _ _)⟩
set_option maxRecDepth 100000 in
theorem Fz(b x:Nat)(T:ByteArray)(rv:Value)(n:dM)(H:Nat->Hd)(a:Int)(s:ByteArray)(w:World)(h:bm w b x T rv n H)(ok:dH n 1073741824)(_ha:-9223372036854775808<=a/\a<=9223372036854775807)(hp:aL n.syms s=none) :
  Calls Tryz.prog 9 #[.pointer (some ⟨b,3,none⟩),.agg #[.int .i64 2,.int .i64 a,.string s]] w fun e w'=>e=.returned (.tuple #[])/\lr b x T rv { n with syms:=n.syms++[s],weight:=n.weight++[a] } w H w':=by
 have l0:=ok.ls;have L1:=(show Hid _ from ok.sw);have l2:=ok.lc;have L3:=(show Hid _ from ok.cm);have l4:=ok.ll;obtain⟨iN,hiN,hzN0,hzN1,hzN2⟩:=info_parts fU;obtain⟨iS,hiS,hzS0,hzS1,hzS2⟩:=info_parts dp;obtain⟨W,HW⟩:∃W,Hid (w.alloc (.cells #[.int .i64 2,.int .i64 a,.string s] 40)=W):=⟨_,rfl⟩
 have kW:aa [] w W:=by rw[<-HW.out];exact(aa.refl [] _).alloc _
 have BW:W.heap[w.heap.size]?=some (.cells #[.int .i64 2,.int .i64 a,.string s] 40 (0,0)):=by rw[<-HW.out];exact heap_alloc_new _ _
 have hobw:=ac BW;obtain⟨ob,HOB⟩:∃ob,Hid (w.heap.size=ob):=⟨_,rfl⟩
 rw[HOB.out]at BW hobw;have o0:W.cell? ⟨ob,0,none⟩=some (.int .i64 2):=by rw[ab BW];rfl
 have o1:W.cell? ⟨ob,1,none⟩=some (.int .i64 a):=by rw[ab BW];rfl
 have o2:W.cell? ⟨ob,2,none⟩=some (.string s):=by rw[ab BW];rfl
 have hB:bm W b x T rv n H:=af.still h kW;have hbW:=af.lt hB;have hfb:=fun i=>af.free hB i
 obtain⟨c3,c4,c5,c6,c7,c8⟩:=bm.in_ hB;have hbo:b≠ob:=by have:=af.lt h;have:=HOB.out;omega
 have hHo:∀q,cK H q->q≠ob:=fun q hq=>by have:=af.inlt h hq;have:=HOB.out;omega
 clear h;go_enter Tryz.func9,Tryz.ntmps9
 go_upto_region 1 with fail
 rw[HW.out,HOB.out];have HFI:=(show Hid _ from eC (H 0) n.syms s);rw[hp,show bQ none=-1 from rfl]at HFI;have HVW:=(show Hid _ from(af.own hB 0));have HVV:Hid (bH W (H 0) n.syms):=au.view HVW.out
 go_upto_region 5 with fail
 go_region_held3 (fun w'=>w'.cell? ⟨b,4,none⟩=some (.slice (H 0).ao n.syms.length (H 0).cap)/\w'.cell? ⟨ob,2,none⟩=some (.string s)) (go_keep) ((go_at_call 32;refine Calls.mono (HFI.out _ (bH.still HVV.out (by exact(aa.refl [] W).drew)) (by omega)) ?_;rintro e2 w2 ⟨rfl,hw2⟩;rw[hw2];clear hw2))
 have kD:aa [] W W.drew:=(aa.refl [] W).drew;generalize W.drew=V at *;have hBV:bm V b x T rv n H:=af.still hB kD;have hbV:=af.lt hBV;have hfV:=fun i=>af.free hBV i
 have BV:=kD.get BW (by simp);clear o0 o1 o2 c3 c4 c5 c6 c7 c8 hfb HFI HVW HVV;have o1:V.cell? ⟨ob,1,none⟩=some (.int .i64 a):=by rw[ab BV];rfl
 have o2:V.cell? ⟨ob,2,none⟩=some (.string s):=by rw[ab BV];rfl
 have hobV:=ac BV;obtain⟨c3,c4,c5,c6,c7,c8⟩:=bm.in_ hBV
 go_upto_region 7 with fail
 have hD:=(show Hid _ from af.still hBV ((aa.refl [] V).alloc (.cells #[.string s] 9)).drew)
 have s2:Hid (∀j u,([.string s]:List Value)[j]?=some u->(V.alloc (.cells #[.string s] 9)).drew.cell? ((⟨V.heap.size,0,none⟩:Addr).add j)=some u):=by
  intro j u hj;have hk:(V.alloc (.cells #[.string s] 9)).drew.heap[V.heap.size]?=some (.cells #[.string s] 9 (0,0)):=heap_alloc_new _ _;rw[aV,ab hk];simpa using hj
 have s3:Hid (∀u∈([.string s]:List Value),u.oneCell'=true):=by intro u hu;simp at hu;subst hu;rfl
 have s4:Hid ((am n.syms).n+1<=maxLen):=by have:=L1.out;have:=L3.out;show n.syms.length+1<=_;unfold maxLen;omega
 have s5:Hid (((am n.syms).n+1)*16<=140737488355328):=by have:=L1.out;have:=L3.out;show(n.syms.length+1)*16<=_;omega
 go_cut [] from 28 to 38 (fun wc=>∃H',bm wc b x T rv { n with syms:=n.syms++[s] } H'/\ag b V H wc H')
 case first =>
  go_region_law (refine aC rfl (.tmp 32) (.tmp 35) 22 rfl iS (.string ⟨#[]⟩) 16 (H 0) (am n.syms) Tryz.underlying22 hiS hzS0 hzS1 hzS2 rfl Nat.one_pos (by simp[Act.eval] <;> rfl) (af.own hD.out 0) ⟨V.heap.size,0,none⟩ 1 1 [.string s] (by simp[Act.eval]) rfl s2.out s3.out Nat.one_pos s4.out s5.out ?_;intro g5 cap5 w5 hw5 hgr5 hfr5;obtain⟨k5,f5,HP⟩:=af.app hD.out (cs':=AQ x T rv { n with syms:=n.syms++[s] } (cG H 0 ⟨some ⟨g5,0,none⟩,cap5⟩)) (rows':=ff { n with syms:=n.syms++[s] }) 4 0 g5 cap5 (n.syms.length+1) _ hw5 (bE _ _) hgr5 (by simpa using hfr5) (rM n _) _ rfl (by simp[AQ,cG]);clear hw5 hgr5 hfr5)
  all_goals go_wp2_with fail
  all_goals go_meet
  all_goals (case rel=>exact⟨_,HP.out.1,HP.out.2.first ((aa.refl [] V).alloc _).drew⟩)
 case rest =>
  obtain⟨H1,hB1,TU1⟩:=hcut;have BV1:=TU1.1.get BV (fun c=>c.elim (fun e=>hbo e.symm) (fun e=>hHo _ e rfl));clear o1 o2 c3 c4 c5 c6 c7 c8 hfV hD s2 s3 s4 s5;have o1:wc.cell? ⟨ob,1,none⟩=some (.int .i64 a):=by rw[ab BV1];rfl
  have o2:wc.cell? ⟨ob,2,none⟩=some (.string s):=by rw[ab BV1];rfl
  have hobV1:=ac BV1;have hbV1:=af.lt hB1;have hfV:=fun i=>af.free hB1 i
  obtain⟨c3,c4,c5,c6,c7,c8⟩:=bm.in_ hB1
  go_upto_region 8 with fail
  have hD:=(show Hid _ from af.still hB1 ((aa.refl [] wc).alloc (.cells #[.int .i64 a] 3)).drew)
  have s2:Hid (∀j u,([.int .i64 a]:List Value)[j]?=some u->(wc.alloc (.cells #[.int .i64 a] 3)).drew.cell? ((⟨wc.heap.size,0,none⟩:Addr).add j)=some u):=by
   intro j u hj;have hk:(wc.alloc (.cells #[.int .i64 a] 3)).drew.heap[wc.heap.size]?=some (.cells #[.int .i64 a] 3 (0,0)):=heap_alloc_new _ _;rw[aV,ab hk];simpa using hj
  have s3:Hid (∀u∈([.int .i64 a]:List Value),u.oneCell'=true):=by intro u hu;simp at hu;subst hu;rfl
  have s4:Hid ((eB n.weight).n+1<=maxLen):=by have:=L1.out;have:=L3.out;show n.weight.length+1<=_;unfold maxLen;omega
  have s5:Hid (((eB n.weight).n+1)*8<=140737488355328):=by have:=L1.out;have:=L3.out;show(n.weight.length+1)*8<=_;omega
  go_region_law (refine aC rfl (.tmp 43) (.tmp 46) 33 rfl iN (.int .i64 0) 8 (H1 1) (eB n.weight) Tryz.underlying33 hiN hzN0 hzN1 hzN2 rfl Nat.one_pos (by simp[Act.eval] <;> rfl) (af.own hD.out 1) ⟨wc.heap.size,0,none⟩ 1 1 [.int .i64 a] (by simp[Act.eval]) rfl s2.out s3.out Nat.one_pos s4.out s5.out ?_;intro g5 cap5 w5 hw5 hgr5 hfr5;obtain⟨k5,f5,HP⟩:=af.app hD.out (cs':=AQ x T rv { n with syms:=n.syms++[s],weight:=n.weight++[a] } (cG H1 1 ⟨some ⟨g5,0,none⟩,cap5⟩)) (rows':=ff { n with syms:=n.syms++[s],weight:=n.weight++[a] }) 5 1 g5 cap5 (n.weight.length+1) _ hw5 (ld _ _) hgr5 (by simpa using hfr5) (kE { n with syms:=n.syms++[s] } _) _ rfl (by simp[AQ,cG]);clear hw5 hgr5 hfr5)
  all_goals go_wp2
  all_goals go_end0
  all_goals exact⟨rfl,_,HP.out.1,ag.first (kW.trans kD) (TU1.trans (HP.out.2.first ((aa.refl [] wc).alloc _).drew))⟩
set_option maxRecDepth 100000 in
theorem FC(b x:Nat)(T:ByteArray)(rv:Value)(n:dM)(H:Nat->Hd)(a:Int)(s:ByteArray)(w:World)(h:bm w b x T rv n H)(ok:dH n 1073741824)(_ha:-9223372036854775808<=a/\a<=9223372036854775807)(hp:aL n.codes s=none) :
  Calls Tryz.prog 9 #[.pointer (some ⟨b,3,none⟩),.agg #[.int .i64 3,.int .i64 a,.string s]] w fun e w'=>e=.returned (.tuple #[])/\lr b x T rv { n with codes:=n.codes++[s],masks:=n.masks++[a] } w H w':=by
 have l0:=ok.ls;have L1:=(show Hid _ from ok.sw);have l2:=ok.lc;have L3:=(show Hid _ from ok.cm);have l4:=ok.ll;obtain⟨iN,hiN,hzN0,hzN1,hzN2⟩:=info_parts fU;obtain⟨iS,hiS,hzS0,hzS1,hzS2⟩:=info_parts dp;obtain⟨W,HW⟩:∃W,Hid (w.alloc (.cells #[.int .i64 3,.int .i64 a,.string s] 40)=W):=⟨_,rfl⟩
 have kW:aa [] w W:=by rw[<-HW.out];exact(aa.refl [] _).alloc _
 have BW:W.heap[w.heap.size]?=some (.cells #[.int .i64 3,.int .i64 a,.string s] 40 (0,0)):=by rw[<-HW.out];exact heap_alloc_new _ _
 have hobw:=ac BW;obtain⟨ob,HOB⟩:∃ob,Hid (w.heap.size=ob):=⟨_,rfl⟩
 rw[HOB.out]at BW hobw;have o0:W.cell? ⟨ob,0,none⟩=some (.int .i64 3):=by rw[ab BW];rfl
 have o1:W.cell? ⟨ob,1,none⟩=some (.int .i64 a):=by rw[ab BW];rfl
 have o2:W.cell? ⟨ob,2,none⟩=some (.string s):=by rw[ab BW];rfl
 have hB:bm W b x T rv n H:=af.still h kW;have hbW:=af.lt hB;have hfb:=fun i=>af.free hB i
 obtain⟨c3,c4,c5,c6,c7,c8⟩:=bm.in_ hB;have hbo:b≠ob:=by have:=af.lt h;have:=HOB.out;omega
 have hHo:∀q,cK H q->q≠ob:=fun q hq=>by have:=af.inlt h hq;have:=HOB.out;omega
 clear h;go_enter Tryz.func9,Tryz.ntmps9
 go_upto_region 1 with fail
 rw[HW.out,HOB.out];have HFI:=(show Hid _ from eC (H 2) n.codes s);rw[hp,show bQ none=-1 from rfl]at HFI;have HVW:=(show Hid _ from(af.own hB 2));have HVV:Hid (bH W (H 2) n.codes):=au.view HVW.out
 go_upto_region 11 with fail
 go_region_held3 (fun w'=>w'.cell? ⟨b,6,none⟩=some (.slice (H 2).ao n.codes.length (H 2).cap)/\w'.cell? ⟨ob,2,none⟩=some (.string s)) (go_keep) ((go_at_call 32;refine Calls.mono (HFI.out _ (bH.still HVV.out (by exact(aa.refl [] W).drew)) (by omega)) ?_;rintro e2 w2 ⟨rfl,hw2⟩;rw[hw2];clear hw2))
 have kD:aa [] W W.drew:=(aa.refl [] W).drew;generalize W.drew=V at *;have hBV:bm V b x T rv n H:=af.still hB kD;have hbV:=af.lt hBV;have hfV:=fun i=>af.free hBV i
 have BV:=kD.get BW (by simp);clear o0 o1 o2 c3 c4 c5 c6 c7 c8 hfb HFI HVW HVV;have o1:V.cell? ⟨ob,1,none⟩=some (.int .i64 a):=by rw[ab BV];rfl
 have o2:V.cell? ⟨ob,2,none⟩=some (.string s):=by rw[ab BV];rfl
 have hobV:=ac BV;obtain⟨c3,c4,c5,c6,c7,c8⟩:=bm.in_ hBV
 go_upto_region 13 with fail
 have hD:=(show Hid _ from af.still hBV ((aa.refl [] V).alloc (.cells #[.string s] 9)).drew)
 have s2:Hid (∀j u,([.string s]:List Value)[j]?=some u->(V.alloc (.cells #[.string s] 9)).drew.cell? ((⟨V.heap.size,0,none⟩:Addr).add j)=some u):=by
  intro j u hj;have hk:(V.alloc (.cells #[.string s] 9)).drew.heap[V.heap.size]?=some (.cells #[.string s] 9 (0,0)):=heap_alloc_new _ _;rw[aV,ab hk];simpa using hj
 have s3:Hid (∀u∈([.string s]:List Value),u.oneCell'=true):=by intro u hu;simp at hu;subst hu;rfl
 have s4:Hid ((am n.codes).n+1<=maxLen):=by have:=L1.out;have:=L3.out;show n.codes.length+1<=_;unfold maxLen;omega
 have s5:Hid (((am n.codes).n+1)*16<=140737488355328):=by have:=L1.out;have:=L3.out;show(n.codes.length+1)*16<=_;omega
 go_cut [] from 69 to 79 (fun wc=>∃H',bm wc b x T rv { n with codes:=n.codes++[s] } H'/\ag b V H wc H')
 case first =>
  go_region_law (refine aC rfl (.tmp 73) (.tmp 76) 22 rfl iS (.string ⟨#[]⟩) 16 (H 2) (am n.codes) Tryz.underlying22 hiS hzS0 hzS1 hzS2 rfl Nat.one_pos (by simp[Act.eval] <;> rfl) (af.own hD.out 2) ⟨V.heap.size,0,none⟩ 1 1 [.string s] (by simp[Act.eval]) rfl s2.out s3.out Nat.one_pos s4.out s5.out ?_;intro g5 cap5 w5 hw5 hgr5 hfr5;obtain⟨k5,f5,HP⟩:=af.app hD.out (cs':=AQ x T rv { n with codes:=n.codes++[s] } (cG H 2 ⟨some ⟨g5,0,none⟩,cap5⟩)) (rows':=ff { n with codes:=n.codes++[s] }) 6 2 g5 cap5 (n.codes.length+1) _ hw5 (bE _ _) hgr5 (by simpa using hfr5) (pY n _) _ rfl (by simp[AQ,cG]);clear hw5 hgr5 hfr5)
  all_goals go_wp2_with fail
  all_goals go_meet
  all_goals (case rel=>exact⟨_,HP.out.1,HP.out.2.first ((aa.refl [] V).alloc _).drew⟩)
 case rest =>
  obtain⟨H1,hB1,TU1⟩:=hcut;have BV1:=TU1.1.get BV (fun c=>c.elim (fun e=>hbo e.symm) (fun e=>hHo _ e rfl));clear o1 o2 c3 c4 c5 c6 c7 c8 hfV hD s2 s3 s4 s5;have o1:wc.cell? ⟨ob,1,none⟩=some (.int .i64 a):=by rw[ab BV1];rfl
  have o2:wc.cell? ⟨ob,2,none⟩=some (.string s):=by rw[ab BV1];rfl
  have hobV1:=ac BV1;have hbV1:=af.lt hB1;have hfV:=fun i=>af.free hB1 i
  obtain⟨c3,c4,c5,c6,c7,c8⟩:=bm.in_ hB1
  go_upto_region 14 with fail
  have hD:=(show Hid _ from af.still hB1 ((aa.refl [] wc).alloc (.cells #[.int .i64 a] 3)).drew)
  have s2:Hid (∀j u,([.int .i64 a]:List Value)[j]?=some u->(wc.alloc (.cells #[.int .i64 a] 3)).drew.cell? ((⟨wc.heap.size,0,none⟩:Addr).add j)=some u):=by
   intro j u hj;have hk:(wc.alloc (.cells #[.int .i64 a] 3)).drew.heap[wc.heap.size]?=some (.cells #[.int .i64 a] 3 (0,0)):=heap_alloc_new _ _;rw[aV,ab hk];simpa using hj
  have s3:Hid (∀u∈([.int .i64 a]:List Value),u.oneCell'=true):=by intro u hu;simp at hu;subst hu;rfl
  have s4:Hid ((eB n.masks).n+1<=maxLen):=by have:=L1.out;have:=L3.out;show n.masks.length+1<=_;unfold maxLen;omega
  have s5:Hid (((eB n.masks).n+1)*8<=140737488355328):=by have:=L1.out;have:=L3.out;show(n.masks.length+1)*8<=_;omega
  go_region_law (refine aC rfl (.tmp 84) (.tmp 87) 33 rfl iN (.int .i64 0) 8 (H1 3) (eB n.masks) Tryz.underlying33 hiN hzN0 hzN1 hzN2 rfl Nat.one_pos (by simp[Act.eval] <;> rfl) (af.own hD.out 3) ⟨wc.heap.size,0,none⟩ 1 1 [.int .i64 a] (by simp[Act.eval]) rfl s2.out s3.out Nat.one_pos s4.out s5.out ?_;intro g5 cap5 w5 hw5 hgr5 hfr5;obtain⟨k5,f5,HP⟩:=af.app hD.out (cs':=AQ x T rv { n with codes:=n.codes++[s],masks:=n.masks++[a] } (cG H1 3 ⟨some ⟨g5,0,none⟩,cap5⟩)) (rows':=ff { n with codes:=n.codes++[s],masks:=n.masks++[a] }) 7 3 g5 cap5 (n.masks.length+1) _ hw5 (ld _ _) hgr5 (by simpa using hfr5) (lS { n with codes:=n.codes++[s] } _) _ rfl (by simp[AQ,cG]);clear hw5 hgr5 hfr5)
  all_goals go_wp2
  all_goals go_end0
  all_goals exact⟨rfl,_,HP.out.1,ag.first (kW.trans kD) (TU1.trans (HP.out.2.first ((aa.refl [] wc).alloc _).drew))⟩
set_option maxRecDepth 100000 in
theorem FB(b x:Nat)(T:ByteArray)(rv:Value)(n:dM)(H:Nat->Hd)(a:Int)(s:ByteArray)(w:World)(h:bm w b x T rv n H)(ok:dH n 1073741824)(_ha:-9223372036854775808<=a/\a<=9223372036854775807)(i:Nat)(hp:aL n.syms s=some i) :
  Calls Tryz.prog 9 #[.pointer (some ⟨b,3,none⟩),.agg #[.int .i64 2,.int .i64 a,.string s]] w fun e w'=>e=.returned (.tuple #[])/\lr b x T rv { n with weight:=n.weight.set i a } w H w':=by
 have l0:=ok.ls;have L1:=(show Hid _ from ok.sw);have l2:=ok.lc;have L3:=(show Hid _ from ok.cm);have l4:=ok.ll;obtain⟨iN,hiN,hzN0,hzN1,hzN2⟩:=info_parts fU;obtain⟨iS,hiS,hzS0,hzS1,hzS2⟩:=info_parts dp;obtain⟨W,HW⟩:∃W,Hid (w.alloc (.cells #[.int .i64 2,.int .i64 a,.string s] 40)=W):=⟨_,rfl⟩
 have kW:aa [] w W:=by rw[<-HW.out];exact(aa.refl [] _).alloc _
 have BW:W.heap[w.heap.size]?=some (.cells #[.int .i64 2,.int .i64 a,.string s] 40 (0,0)):=by rw[<-HW.out];exact heap_alloc_new _ _
 have hobw:=ac BW;obtain⟨ob,HOB⟩:∃ob,Hid (w.heap.size=ob):=⟨_,rfl⟩
 rw[HOB.out]at BW hobw;have o0:W.cell? ⟨ob,0,none⟩=some (.int .i64 2):=by rw[ab BW];rfl
 have o1:W.cell? ⟨ob,1,none⟩=some (.int .i64 a):=by rw[ab BW];rfl
 have o2:W.cell? ⟨ob,2,none⟩=some (.string s):=by rw[ab BW];rfl
 have hB:bm W b x T rv n H:=af.still h kW;have hbW:=af.lt hB;have hfb:=fun i=>af.free hB i
 obtain⟨c3,c4,c5,c6,c7,c8⟩:=bm.in_ hB;have hbo:b≠ob:=by have:=af.lt h;have:=HOB.out;omega
 have hHo:∀q,cK H q->q≠ob:=fun q hq=>by have:=af.inlt h hq;have:=HOB.out;omega
 clear h;go_enter Tryz.func9,Tryz.ntmps9
 go_upto_region 1 with fail
 rw[HW.out,HOB.out];have hil:i<n.weight.length:=by have:=List.mem_range.1 (List.mem_of_find?_eq_some hp);have:=L1.out;have:=L3.out;omega
 have HFI:=(show Hid _ from eC (H 0) n.syms s);rw[hp,show bQ (some i)=(i:Int) from rfl]at HFI;have HVW:=(show Hid _ from(af.own hB 0));have HVV:Hid (bH W (H 0) n.syms):=au.view HVW.out
 go_upto_region 5 with fail
 go_region_held3 (fun w'=>w'.cell? ⟨b,4,none⟩=some (.slice (H 0).ao n.syms.length (H 0).cap)/\w'.cell? ⟨ob,2,none⟩=some (.string s)) (go_keep) ((go_at_call 32;refine Calls.mono (HFI.out _ (bH.still HVV.out (by exact(aa.refl [] W).drew)) (by omega)) ?_;rintro e2 w2 ⟨rfl,hw2⟩;rw[hw2];clear hw2))
 have kD:aa [] W W.drew:=(aa.refl [] W).drew;generalize W.drew=V at *;have hBV:bm V b x T rv n H:=af.still hB kD;have hbV:=af.lt hBV;have hfV:=fun i=>af.free hBV i
 have BV:=kD.get BW (by simp);clear o0 o1 o2 c3 c4 c5 c6 c7 c8 hfb HFI HVW HVV;have o1:V.cell? ⟨ob,1,none⟩=some (.int .i64 a):=by rw[ab BV];rfl
 have o2:V.cell? ⟨ob,2,none⟩=some (.string s):=by rw[ab BV];rfl
 have hobV:=ac BV;obtain⟨c3,c4,c5,c6,c7,c8⟩:=bm.in_ hBV;obtain⟨g1,e1,gw1,cg1,hcp1⟩:=mF (af.own hBV 1) hil;have o0v:(H 1).ao=some ⟨g1,0,none⟩:=e1;have hii:(i:Int)<(n.weight.length:Int):=by omega
 have hblk:(H 1).blk=some g1:=by unfold Hd.blk;rw[e1];rfl
 have hfg:V.frozen? ⟨g1,i,none⟩=false:=by
  rcases(af.own hBV 1).ways with ⟨-,e,-⟩ | ⟨g',cur,e1',e2',-⟩
  ·have e:n.weight.length=0:=e
   omega
  ·rw[e1]at e1';cases e1';exact an e2' i
 rw[e1]at c5
 have HFN:Hid (∀X,aa [] V X->∃H',bm (X.setCell ⟨g1,i,none⟩ (.int .i64 a)) b x T rv { n with weight:=n.weight.set i a } H'/\ag b V H (X.setCell ⟨g1,i,none⟩ (.int .i64 a)) H'):=fun X kX=>by
  have hBX:=af.still hBV kX;refine⟨H,⟨?_,fun j=>?_,hBX.apart,hBX.off⟩,⟨(kX.toP (by simp)).setCell (Or.inl (Or.inr ⟨1,hblk⟩)) _,fun q hq=>Or.inl hq⟩⟩
  ·have hne:g1≠b:=fun e=>hBX.off 1 (by rw[hblk,e])
   rw[Below.heap_setCell _ _ _ _ (fun e=>hne e.symm),hBX.blk];simp[AQ]
  ·by_cases c:j=1
   ·subst c
    have:=(hBX.own 1).putAt e1 i (.int .i64 a);have er:(⟨(ff n 1).e,(ff n 1).size,(ff n 1).n,(ff n 1).xs.set i (.int .i64 a)⟩:eI)=ff { n with weight:=n.weight.set i a } 1:=by simp[ff,eB,List.map_set]
    rw[er]at this;exact this
   ·rw[kE n _ j c]
    refine(hBX.own j).moved (fun q hq=>Below.heap_setCell _ _ _ _ ?_);rintro rfl
    rcases hBX.apart j 1 c with z | z
    ·rw[z]at hq;cases hq
    ·exact z (hq.trans hblk.symm)
 have gXw:∀X,aa [] V X->X.cell? ⟨g1,i,none⟩=some (.int .i64 n.weight[i]):=fun X kX=>by rw[World.cell?_of_block (kX.block g1 gw1 (by simp))];exact cg1
 go_upto_region 9 with fail
 go_region
 all_goals go_wp2
 all_goals go_end0
 obtain⟨H',q1,q2⟩:=HFN.out V (aa.refl [] V);exact⟨rfl,H',af.still q1 (aa.refl [] _).drew,(q2.still (aa.refl [] _).drew).first (kW.trans kD)⟩
set_option maxRecDepth 100000 in
theorem FD(b x:Nat)(T:ByteArray)(rv:Value)(n:dM)(H:Nat->Hd)(a:Int)(s:ByteArray)(w:World)(h:bm w b x T rv n H)(ok:dH n 1073741824)(_ha:-9223372036854775808<=a/\a<=9223372036854775807)(i:Nat)(hp:aL n.codes s=some i) :
  Calls Tryz.prog 9 #[.pointer (some ⟨b,3,none⟩),.agg #[.int .i64 3,.int .i64 a,.string s]] w fun e w'=>e=.returned (.tuple #[])/\lr b x T rv { n with masks:=n.masks.set i a } w H w':=by
 have l0:=ok.ls;have L1:=(show Hid _ from ok.sw);have l2:=ok.lc;have L3:=(show Hid _ from ok.cm);have l4:=ok.ll;obtain⟨iN,hiN,hzN0,hzN1,hzN2⟩:=info_parts fU;obtain⟨iS,hiS,hzS0,hzS1,hzS2⟩:=info_parts dp;obtain⟨W,HW⟩:∃W,Hid (w.alloc (.cells #[.int .i64 3,.int .i64 a,.string s] 40)=W):=⟨_,rfl⟩
 have kW:aa [] w W:=by rw[<-HW.out];exact(aa.refl [] _).alloc _
 have BW:W.heap[w.heap.size]?=some (.cells #[.int .i64 3,.int .i64 a,.string s] 40 (0,0)):=by rw[<-HW.out];exact heap_alloc_new _ _
 have hobw:=ac BW;obtain⟨ob,HOB⟩:∃ob,Hid (w.heap.size=ob):=⟨_,rfl⟩
 rw[HOB.out]at BW hobw;have o0:W.cell? ⟨ob,0,none⟩=some (.int .i64 3):=by rw[ab BW];rfl
 have o1:W.cell? ⟨ob,1,none⟩=some (.int .i64 a):=by rw[ab BW];rfl
 have o2:W.cell? ⟨ob,2,none⟩=some (.string s):=by rw[ab BW];rfl
 have hB:bm W b x T rv n H:=af.still h kW;have hbW:=af.lt hB;have hfb:=fun i=>af.free hB i
 obtain⟨c3,c4,c5,c6,c7,c8⟩:=bm.in_ hB;have hbo:b≠ob:=by have:=af.lt h;have:=HOB.out;omega
 have hHo:∀q,cK H q->q≠ob:=fun q hq=>by have:=af.inlt h hq;have:=HOB.out;omega
 clear h;go_enter Tryz.func9,Tryz.ntmps9
 go_upto_region 1 with fail
 rw[HW.out,HOB.out];have hil:i<n.masks.length:=by have:=List.mem_range.1 (List.mem_of_find?_eq_some hp);have:=L1.out;have:=L3.out;omega
 have HFI:=(show Hid _ from eC (H 2) n.codes s);rw[hp,show bQ (some i)=(i:Int) from rfl]at HFI;have HVW:=(show Hid _ from(af.own hB 2));have HVV:Hid (bH W (H 2) n.codes):=au.view HVW.out
 go_upto_region 11 with fail
 go_region_held3 (fun w'=>w'.cell? ⟨b,6,none⟩=some (.slice (H 2).ao n.codes.length (H 2).cap)/\w'.cell? ⟨ob,2,none⟩=some (.string s)) (go_keep) ((go_at_call 32;refine Calls.mono (HFI.out _ (bH.still HVV.out (by exact(aa.refl [] W).drew)) (by omega)) ?_;rintro e2 w2 ⟨rfl,hw2⟩;rw[hw2];clear hw2))
 have kD:aa [] W W.drew:=(aa.refl [] W).drew;generalize W.drew=V at *;have hBV:bm V b x T rv n H:=af.still hB kD;have hbV:=af.lt hBV;have hfV:=fun i=>af.free hBV i
 have BV:=kD.get BW (by simp);clear o0 o1 o2 c3 c4 c5 c6 c7 c8 hfb HFI HVW HVV;have o1:V.cell? ⟨ob,1,none⟩=some (.int .i64 a):=by rw[ab BV];rfl
 have o2:V.cell? ⟨ob,2,none⟩=some (.string s):=by rw[ab BV];rfl
 have hobV:=ac BV;obtain⟨c3,c4,c5,c6,c7,c8⟩:=bm.in_ hBV;obtain⟨g1,e1,gw1,cg1,hcp1⟩:=mF (af.own hBV 3) hil;have o0v:(H 3).ao=some ⟨g1,0,none⟩:=e1;have hii:(i:Int)<(n.masks.length:Int):=by omega
 have hblk:(H 3).blk=some g1:=by unfold Hd.blk;rw[e1];rfl
 have hfg:V.frozen? ⟨g1,i,none⟩=false:=by
  rcases(af.own hBV 3).ways with ⟨-,e,-⟩ | ⟨g',cur,e1',e2',-⟩
  ·have e:n.masks.length=0:=e
   omega
  ·rw[e1]at e1';cases e1';exact an e2' i
 rw[e1]at c7
 have HFN:Hid (∀X,aa [] V X->∃H',bm (X.setCell ⟨g1,i,none⟩ (.int .i64 a)) b x T rv { n with masks:=n.masks.set i a } H'/\ag b V H (X.setCell ⟨g1,i,none⟩ (.int .i64 a)) H'):=fun X kX=>by
  have hBX:=af.still hBV kX;refine⟨H,⟨?_,fun j=>?_,hBX.apart,hBX.off⟩,⟨(kX.toP (by simp)).setCell (Or.inl (Or.inr ⟨3,hblk⟩)) _,fun q hq=>Or.inl hq⟩⟩
  ·have hne:g1≠b:=fun e=>hBX.off 3 (by rw[hblk,e])
   rw[Below.heap_setCell _ _ _ _ (fun e=>hne e.symm),hBX.blk];simp[AQ]
  ·by_cases c:j=3
   ·subst c
    have:=(hBX.own 3).putAt e1 i (.int .i64 a);have er:(⟨(ff n 3).e,(ff n 3).size,(ff n 3).n,(ff n 3).xs.set i (.int .i64 a)⟩:eI)=ff { n with masks:=n.masks.set i a } 3:=by simp[ff,eB,List.map_set]
    rw[er]at this;exact this
   ·rw[lS n _ j c]
    refine(hBX.own j).moved (fun q hq=>Below.heap_setCell _ _ _ _ ?_);rintro rfl
    rcases hBX.apart j 3 c with z | z
    ·rw[z]at hq;cases hq
    ·exact z (hq.trans hblk.symm)
 have gXw:∀X,aa [] V X->X.cell? ⟨g1,i,none⟩=some (.int .i64 n.masks[i]):=fun X kX=>by rw[World.cell?_of_block (kX.block g1 gw1 (by simp))];exact cg1
 go_upto_region 15 with fail
 go_region
 all_goals go_wp2
 all_goals go_end0
 obtain⟨H',q1,q2⟩:=HFN.out V (aa.refl [] V);exact⟨rfl,H',af.still q1 (aa.refl [] _).drew,(q2.still (aa.refl [] _).drew).first (kW.trans kD)⟩
theorem dH.turn{n:dM}{N:Nat}(ok:dH n N)(k a:Int)(s:ByteArray)(ha:-9223372036854775808<=a/\a<=9223372036854775807):dH (yF n k a s) (N+1):=by
 have up:∀{l:List Int} {c:Int},(∀v∈l,-9223372036854775808<=v/\v<=9223372036854775807)->(-9223372036854775808<=c/\c<=9223372036854775807)->∀v∈l++[c],-9223372036854775808<=v/\v<=9223372036854775807:=fun h1 h2 v hv=>by
  rcases List.mem_append.1 hv with hv | hv
  ·exact h1 v hv
  ·rw[List.mem_singleton.1 hv];exact h2
 have st:∀{l:List Int} {c:Int} {i:Nat},(∀v∈l,-9223372036854775808<=v/\v<=9223372036854775807)->(-9223372036854775808<=c/\c<=9223372036854775807)->∀v∈l.set i c,-9223372036854775808<=v/\v<=9223372036854775807:=fun h1 h2 v hv=>by
  rcases List.mem_or_eq_of_mem_set hv with hv | hv
  ·exact h1 v hv
  ·rw[hv];exact h2
 have b0:=ok.mod;have b1:=ok.sw;have b2:=ok.cm;have b3:=ok.ls;have b4:=ok.lc;have b5:=ok.ll;have same:dH n (N+1):=⟨b0,b1,b2,by omega,by omega,by omega,ok.wb,ok.mb⟩;unfold yF
 split
 ·exact⟨by have:=uG a 4 (by omega);show ii a 4<=3;omega,b1,b2,by show n.syms.length<=_;omega,by show n.codes.length<=_;omega,by show n.lin.length<=_;omega,ok.wb,ok.mb⟩
 ·split
  ·split
   ·exact⟨b0,by simp[b1],b2,by simp;omega,by show n.codes.length<=_;omega,by show n.lin.length<=_;omega,up ok.wb ha,ok.mb⟩
   ·exact⟨b0,by simp[b1],b2,by show n.syms.length<=_;omega,by show n.codes.length<=_;omega,by show n.lin.length<=_;omega,st ok.wb ha,ok.mb⟩
  ·split
   ·split
    ·exact⟨b0,b1,by simp[b2],by show n.syms.length<=_;omega,by simp;omega,by show n.lin.length<=_;omega,ok.wb,up ok.mb ha⟩
    ·exact⟨b0,b1,by simp[b2],by show n.syms.length<=_;omega,by show n.codes.length<=_;omega,by show n.lin.length<=_;omega,ok.wb,st ok.mb ha⟩
   ·split
    ·split
     ·exact⟨b0,b1,b2,by show n.syms.length<=_;omega,by show n.codes.length<=_;omega,by simp;omega,ok.wb,ok.mb⟩
     ·exact same
    ·split
     ·exact⟨b0,rfl,rfl,by simp,by simp,by simp,(fun v hv=>by cases hv),(fun v hv=>by cases hv)⟩
     ·exact same
theorem Di(b x:Nat)(T:ByteArray)(rv:Value)(n:dM)(H:Nat->Hd)(k a:Int)(s:ByteArray)(w:World)(h:bm w b x T rv n H)(ok:dH n 1073741824)(ha:-9223372036854775808<=a/\a<=9223372036854775807) :
  Calls Tryz.prog 9 #[.pointer (some ⟨b,3,none⟩),.agg #[.int .i64 k,.int .i64 a,.string s]] w fun e w'=>e=.returned (.tuple #[])/\lr b x T rv (yF n k a s) w H w':=by
 unfold yF
 by_cases h1:k=1
 ·subst h1;rw[if_pos rfl];exact Gr b x T rv n H a s w h ok ha
 ·rw[if_neg h1]
  by_cases h2:k=2
  ·subst h2
   rw[if_pos rfl]
   cases hp:aL n.syms s with
   | none=>exact Fz b x T rv n H a s w h ok ha hp
   | some i=>exact FB b x T rv n H a s w h ok ha i hp
  ·rw[if_neg h2]
   by_cases h3:k=3
   ·subst h3
    rw[if_pos rfl]
    cases hp:aL n.codes s with
    | none=>exact FC b x T rv n H a s w h ok ha hp
    | some i=>exact FD b x T rv n H a s w h ok ha i hp
   ·rw[if_neg h3]
    by_cases h4:k=4
    ·subst h4
     rw[if_pos rfl]
     cases hp:aL n.lin s with
     | none=>exact FE b x T rv n H a s w h ok ha hp
     | some i=>exact FF b x T rv n H a s w h ok ha i hp
    ·rw[if_neg h4]
     by_cases h5:k=5
     ·subst h5;rw[if_pos rfl];exact Gs b x T rv n H a s w h ok ha
     ·rw[if_neg h5]
      exact Gq b x T rv n H a s w h ok ha k (beq_eq_false_iff_ne.2 h1) (beq_eq_false_iff_ne.2 h2) (beq_eq_false_iff_ne.2 h3) (beq_eq_false_iff_ne.2 h4) (beq_eq_false_iff_ne.2 h5)
end Go.Proofs.YtlbhbocbakijbaaGreat

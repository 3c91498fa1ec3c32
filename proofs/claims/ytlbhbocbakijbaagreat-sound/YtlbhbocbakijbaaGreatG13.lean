import Derived.BigQuiet
import Derived.Test.YtlbhbocbakijbaaGreatG12
namespace Go.Proofs.YtlbhbocbakijbaaGreat
open Go.RowKit
set_option maxHeartbeats 0
def gC(c:gG)(d:Nat):gG:=if c.digits<=c.names.length+c.tagged.length then { c with behind:=false,digits:=c.digits*5+d } else { c with behind:=false }
theorem cB.digs{w:World}{b:Nat}{c:gG}{H:Nat->Hd}(h:cB w b c H)(n:Nat):Hid (cB (w.setCell ⟨b,3,none⟩ (.int .i64 n)) b { c with digits:=n } H/\ag b w H (w.setCell ⟨b,3,none⟩ (.int .i64 n)) H):=af.set h 3 (.int .i64 n)
theorem cB.beh{w:World}{b:Nat}{c:gG}{H:Nat->Hd}(h:cB w b c H)(x:Bool):Hid (cB (w.setCell ⟨b,4,none⟩ (.bool x)) b { c with behind:=x } H/\ag b w H (w.setCell ⟨b,4,none⟩ (.bool x)) H):=af.set h 4 (.bool x)
theorem cB.still{w w':World}{b:Nat}{c:gG}{H:Nat->Hd}(h:cB w b c H)(k:aa [] w w'):cB w' b c H:=af.still h k
set_option maxRecDepth 100000 in
theorem qN(b:Nat)(c:gG)(H:Nat->Hd)(d:Nat)(w:World)(h:cB w b c H)(ok:dU c 10000000)(hd:d<=5) :
  Calls Tryz.prog 173 #[.pointer (some ⟨b,0,none⟩),.int .i64 d] w fun e w'=>e=.returned (.tuple #[])/\cB w' b (gC c d) H/\ag b w H w' H:=by
 have h1:=ok.names;have h2:=ok.tagged;have h3:=ok.digits;obtain⟨c0,c1,c2,c3,c4⟩:=h.cells;have hfr:=af.free h;have HB:=h.beh false;obtain⟨w2,hw2⟩:∃w2,w2=w.setCell ⟨b,4,none⟩ (.bool false):=⟨_,rfl⟩
 have HW:=(show Hid _ from hw2.symm);rw[<-hw2]at HB;clear hw2
 by_cases hle:c.digits<=c.names.length+c.tagged.length
 ·have HT:Hid (gC c d={ c with behind:=false,digits:=c.digits*5+d }):=if_pos hle
  go_enter Tryz.func173,Tryz.ntmps173
  go_upto_region 1 with fail
  rw[HW.out];clear c0 c1 c2 c3 c4 hfr HW;obtain⟨c0,c1,c2,c3,c4⟩:=HB.out.1.cells;simp only at c0 c1 c3;clear c2 c4;have hfr:=af.free HB.out.1;have hle':(c.digits:Int)<=(c.names.length:Int)+(c.tagged.length:Int):=by omega
  go_quiet (fail)
  have HD:=HB.out.1.digs (c.digits*5+d);rw[show((c.digits*5+d:Nat):Int)=(c.digits:Int)*5+(d:Int) by omega]at HD;go_wp2;go_end0;exact⟨rfl,by rw[HT.out];exact HD.out.1.still ((aa.refl [] _).drewN nq),ag.trans HB.out.2 (ag.still HD.out.2 ((aa.refl [] _).drewN nq))⟩
 ·have HT:Hid (gC c d={ c with behind:=false }):=if_neg hle
  go_enter Tryz.func173,Tryz.ntmps173
  go_upto_region 1 with fail
  rw[HW.out];clear c0 c1 c2 c3 c4 hfr HW;obtain⟨c0,c1,c2,c3,c4⟩:=HB.out.1.cells;simp only at c0 c1 c3;clear c2 c4
  go_quiet (fail)
  go_wp2;go_end0;exact⟨rfl,by rw[HT.out];exact HB.out.1.still ((aa.refl [] _).drewN nq),ag.still HB.out.2 ((aa.refl [] _).drewN nq)⟩
def fc(c:gG)(u:Nat)(p:Pl):Int×gG :=
 if c.digits*20+u-1<c.names.length then(0,{ cH { c with digits:=0 } ⟨2,c.names.getD (c.digits*20+u-1) 0,p⟩ with behind:=true })
 else if c.digits*20+u-1-c.names.length<c.tagged.length then(0,{ cH { c with digits:=0 } ⟨3,c.tagged.getD (c.digits*20+u-1-c.names.length) 0,p⟩ with behind:=true })
 else(5,{ c with digits:=0 })
theorem FV(l:List Nat)(k:Nat)(h:k<l.length):l.getD k 0=l[k]:=by rw[List.getD_eq_getElem?_getD,List.getElem?_eq_getElem h];rfl
theorem Bs(w:World)(f:ByteArray)(l c:Int) :
  ∃W,Hid (w.alloc (.cells #[.string f,.int .i64 l,.int .i64 c] 46)=W)/\aa [] w W/\W.heap[w.heap.size]?=some (.cells #[.string f,.int .i64 l,.int .i64 c] 46 (0,0))/\W.cell? ⟨w.heap.size,0,none⟩=some (.string f)/\W.cell? ⟨w.heap.size,1,none⟩=some (.int .i64 l)/\W.cell? ⟨w.heap.size,2,none⟩=some (.int .i64 c):=by
 have B:(w.alloc (.cells #[.string f,.int .i64 l,.int .i64 c] 46)).heap[w.heap.size]?=some (.cells #[.string f,.int .i64 l,.int .i64 c] 46 (0,0)):=heap_alloc_new _ _;refine⟨_,rfl,(aa.refl [] _).alloc _,B,?_,?_,?_⟩ <;> rw[ab B] <;> rfl
set_option maxRecDepth 100000 in
theorem oL(b:Nat)(c:gG)(H:Nat->Hd)(u:Nat)(f:ByteArray)(l co:Int)(w:World)(h:cB w b c H)(ok:dU c 10000000)(hu:1<=u)(hu2:u<=20) :
  Calls Tryz.prog 172 #[.pointer (some ⟨b,0,none⟩),.int .i64 u,.agg #[.string f,.int .i64 l,.int .i64 co]] w fun e w'=>e=.returned (.int .i64 (fc c u ⟨f,l,co⟩).1)/\∃H',cB w' b (fc c u ⟨f,l,co⟩).2 H'/\ag b w H w' H':=by
 have h1:=ok.names;have h2:=ok.tagged;have h3:=ok.digits;obtain⟨W,HW,K,B,p0,p1,p2⟩:=Bs w f l co;have hC:=h.still K;have hnb:w.heap.size≠b:=by have:=af.lt h;omega
 have HNI:Hid (∀k,cK H k->k≠w.heap.size):=fun k hk=>by have:=af.inlt h hk;omega
 obtain⟨c0,c1,c2,c3,c4⟩:=hC.cells;have hfr:=af.free hC;have HD:Hid (cB (W.setCell ⟨b,3,none⟩ (.int .i64 0)) b { c with digits:=0 } H/\ag b W H (W.setCell ⟨b,3,none⟩ (.int .i64 0)) H):=hC.digs 0;obtain⟨w2,hw2⟩:∃w2,w2=W.setCell ⟨b,3,none⟩ (.int .i64 0):=⟨_,rfl⟩
 have HW2:=(show Hid _ from hw2.symm);rw[<-hw2]at HD;have B2:w2.heap[w.heap.size]?=some (.cells #[.string f,.int .i64 l,.int .i64 co] 46 (0,0)):=by rw[hw2];exact(Below.heap_setCell _ _ _ _ hnb).trans B
 have r0:w2.cell? ⟨w.heap.size,0,none⟩=some (.string f):=by rw[ab B2];rfl
 have r1:w2.cell? ⟨w.heap.size,1,none⟩=some (.int .i64 l):=by rw[ab B2];rfl
 have r2:w2.cell? ⟨w.heap.size,2,none⟩=some (.int .i64 co):=by rw[ab B2];rfl
 clear hw2 h;have ok0:dU { c with digits:=0 } 10000000:=⟨h1,h2,ok.steps,Nat.zero_le _,ok.behind⟩;have hdg:Hid (c.digits*20+u-1=c.digits*20+(u-1)):=by show _=_;omega
 obtain⟨v,hv⟩:∃v,u=v+1:=⟨u-1,by omega⟩
 subst hv;have e1:Hid (c.digits*20+(v+1)-1=c.digits*20+v):=by show _=_;omega
 have hi1:(c.digits:Int)*20+((v:Int)+1)-1=((c.digits*20+v:Nat):Int):=by omega
 obtain⟨ix,hix⟩:∃ix,c.digits*20+v=ix:=⟨_,rfl⟩
 have HE:Hid (fc c (v+1) ⟨f,l,co⟩=if ix<c.names.length then(0,{ cH { c with digits:=0 } ⟨2,c.names.getD ix 0,⟨f,l,co⟩⟩ with behind:=true }) else if ix-c.names.length<c.tagged.length then(0,{ cH { c with digits:=0 } ⟨3,c.tagged.getD (ix-c.names.length) 0,⟨f,l,co⟩⟩ with behind:=true }) else(5,{ c with digits:=0 })):=by
  show _=_;unfold fc;rw[e1.out,hix]
 rw[hix]at hi1;have hixl:ix<=4000000000:=by omega
 go_enter Tryz.func172,Tryz.ntmps172
 go_upto_region 1 with fail
 rw[HW.out]
 go_upto_region 3 with fail
 rw[HW2.out];clear HW HW2 c0 c1 c2 c3 c4 hfr p0 p1 p2 hi1 e1 hdg hix;obtain⟨c0,c1,c2,c3,c4⟩:=HD.out.1.cells;simp only at c0 c1;clear c2 c3 c4;have T2:Hid (ag b w H w2 H):=ag.first K HD.out.2
 by_cases h4:ix<c.names.length
 ·have hg:=FV c.names ix h4
  have HT:Hid (fc c (v+1) ⟨f,l,co⟩=(0,{ cH { c with digits:=0 } ⟨2,c.names[ix],⟨f,l,co⟩⟩ with behind:=true })):=by show _=_;rw[HE.out,if_pos h4,hg]
  have hO:au w2 (H 0) (aP c.names):=af.own HD.out.1 0
  rcases hO.ways with ⟨_,h0,_⟩ | ⟨g,cur,e1,-,e3,-⟩
  ·have:c.names.length=0:=h0
   omega
  ·have pe:=hO.cell e1 ix (.int .i64 c.names[ix]) (fM c.names ix h4)
   rw[e1]at c0;have hcp:c.names.length<=(H 0).cap:=e3;generalize c.names[ix]=nx at *;clear hO HE c1 hg
   go_upto_region 4 with fail
   go_region_with (go_at_call 174;refine(jY b { c with digits:=0 } H 2 nx f l co _ (by exact HD.out.1.still (aa.refl [] _).drew) ok0).mono ?_;rintro e w9 ⟨rfl,H9,D9,T9,-⟩)
   all_goals
    have KB:=D9.beh true;obtain⟨d0,d1,d2,d3,d4⟩:=D9.cells;have hf9:=af.free D9;clear d0 d1 d2 d3 pe c0 r0 r1 r2;go_wp2;go_ret;exact⟨ar (by rw[HT.out]),H9,by rw[HT.out];exact KB.out.1,ag.trans T2.out (ag.trans (ag.first (aa.refl [] _).drew T9) KB.out.2)⟩
 ·have hs4:(ix:Int)-(c.names.length:Int)=((ix-c.names.length:Nat):Int):=by omega
  by_cases h5:ix-c.names.length<c.tagged.length
  ·have hg:=FV c.tagged (ix-c.names.length) h5
   have HT:Hid (fc c (v+1) ⟨f,l,co⟩=(0,{ cH { c with digits:=0 } ⟨3,c.tagged[ix-c.names.length],⟨f,l,co⟩⟩ with behind:=true })):=by show _=_;rw[HE.out,if_neg h4,if_pos h5,hg]
   have hO:au w2 (H 1) (aP c.tagged):=af.own HD.out.1 1
   rcases hO.ways with ⟨_,h0,_⟩ | ⟨g,cur,e1,-,e3,-⟩
   ·have:c.tagged.length=0:=h0
    omega
   ·have pe:=hO.cell e1 (ix-c.names.length) (.int .i64 c.tagged[ix-c.names.length]) (fM c.tagged _ h5)
    rw[e1]at c1;have hcp:c.tagged.length<=(H 1).cap:=e3;generalize c.tagged[ix-c.names.length]=nx at *;clear hO HE hg;generalize hj:ix-c.names.length=j at *
    go_upto_region 9 with fail
    go_region_with (go_at_call 174;refine(jY b { c with digits:=0 } H 3 nx f l co _ (by exact HD.out.1.still (aa.refl [] _).drew) ok0).mono ?_;rintro e w9 ⟨rfl,H9,D9,T9,-⟩)
    all_goals
     have KB:=D9.beh true;obtain⟨d0,d1,d2,d3,d4⟩:=D9.cells;have hf9:=af.free D9;clear d0 d1 d2 d3 pe c0 c1 r0 r1 r2;go_wp2;go_ret;exact⟨ar (by rw[HT.out]),H9,by rw[HT.out];exact KB.out.1,ag.trans T2.out (ag.trans (ag.first (aa.refl [] _).drew T9) KB.out.2)⟩
  ·have HT:Hid (fc c (v+1) ⟨f,l,co⟩=(5,{ c with digits:=0 })):=by show _=_;rw[HE.out,if_neg h4,if_neg h5]
   clear HE;generalize hj:ix-c.names.length=j at *;go_wp2;go_ret;exact⟨ar (by rw[HT.out]),H,by rw[HT.out];exact HD.out.1,T2.out⟩
end Go.Proofs.YtlbhbocbakijbaaGreat

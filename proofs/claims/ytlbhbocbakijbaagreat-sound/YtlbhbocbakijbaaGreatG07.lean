import Derived.BigQuiet
import Derived.Deep.RegionHeld3
import Derived.Test.YtlbhbocbakijbaaGreatG06
namespace Go.Proofs.YtlbhbocbakijbaaGreat
open Go.RowKit
set_option maxHeartbeats 0
def tD(d:Db)(p:Pl):Db:={ d with sts:=d.sts++[⟨d.kind,d.label,d.symbols,d.proof,p,0⟩] }
def cZ(d:Db):Db:=if(d.kind==2)=true/\1<d.symbols.length then { d with typed:=d.typed++[d.symbols.getD 1 ⟨#[]⟩] } else d
def bX(d:Db)(p:Pl):Db :=
 if(d.kind==7)=true then { d with constants:=d.constants++d.symbols }
 else if(d.kind==8)=true then da d d.symbols.length
 else tD (cZ d) p
theorem xJ{w:World}{b t o:Nat}{pre post:List Value}{d:Db}{H H0:Nat->Hd}(D:aE w b t pre post d H)(ho:pre.length=o)(e8:H 8=H0 8)(e9:H 9=H0 9) :
  w.cell? ⟨b,o+8,none⟩=some (.int .i64 d.kind)/\w.cell? ⟨b,o+9,none⟩=some (.string d.label)/\w.cell? ⟨b,o+10,none⟩=some (.slice (H0 8).ao d.symbols.length (H0 8).cap)/\w.cell? ⟨b,o+12,none⟩=some (.slice (H0 9).ao d.proof.length (H0 9).cap):=by
 obtain⟨q0,q1,q2,q3,q4,q5,q6,q7,q8,q9,q10,q11,q12⟩:=D.cells o ho;rw[e8]at q10;rw[e9]at q12;exact⟨q8,q9,q10,q12⟩
theorem xH{w w':World}{b P:Nat}{H H':Nat->Hd}{f:ByteArray}{l c:Int}(T:ag b w H w' H')(B:w.heap[P]?=some (.cells #[.string f,.int .i64 l,.int .i64 c] 46 (0,0)))(h1:P≠b)(h2:∀k,cK H k->k≠P) :
  w'.cell? ⟨P,0,none⟩=some (.string f)/\w'.cell? ⟨P,1,none⟩=some (.int .i64 l)/\w'.cell? ⟨P,2,none⟩=some (.int .i64 c):=by
 have B2:=T.1.get B (by rintro (e | e);exact h1 e;exact h2 _ e rfl);refine⟨?_,?_,?_⟩ <;> rw[ab B2] <;> rfl
set_option maxRecDepth 100000 in
theorem tK(b t o:Nat)(pre post:List Value)(d:Db)(H:Nat->Hd)(f:ByteArray)(l c:Int)(w:World)(h:aE w b t pre post d H)(ho:pre.length=o)(hm:0<d.symbols.length)(hs:dF d 10000000) :
  Calls Tryz.prog 162 #[.pointer (some ⟨b,o,none⟩),.agg #[.string f,.int .i64 l,.int .i64 c]] w fun e w'=>e=.returned (.tuple #[])/\∃H',aE w' b t pre post (bX d ⟨f,l,c⟩) H'/\ag b w H w' H':=by
 obtain⟨W,hW⟩:∃W,W=w.alloc (.cells #[.string f,.int .i64 l,.int .i64 c] 46):=⟨_,rfl⟩
 have K:aa [] w W:=by rw[hW];exact(aa.refl [] _).alloc _
 have D:=h.still K;have HW:=(show Hid _ from hW.symm);have B:W.heap[w.heap.size]?=some (.cells #[.string f,.int .i64 l,.int .i64 c] 46 (0,0)):=by rw[hW];exact heap_alloc_new _ _
 have hnb:w.heap.size≠b:=by have:=h.lt;omega
 have hni:Hid (∀k,cK H k->k≠w.heap.size):=fun k hk=>by have:=h.inlt hk;omega
 have hs8:=(show Hid (dF d 100000000) from⟨by have:=hs.labels;omega,by have:=hs.constants;omega,by have:=hs.variables;omega,by have:=hs.active;omega,by have:=hs.typed;omega,by have:=hs.blocks;omega,by have:=hs.sts;omega,by have:=hs.rbl;omega,by have:=hs.symbols;omega,by have:=hs.proof;omega⟩);clear hW;obtain⟨q0,q1,q2,q3,q4,q5,q6,q7,q8,q9,q10,q11,q12⟩:=D.cells o ho;clear q0 q1 q2 q3 q4 q5 q6 q7 q11;have hsl:=hs.symbols
 cases k7:(d.kind==7)
 ·cases k8:(d.kind==8)
  ·by_cases k2:(d.kind==2)=true/\1<d.symbols.length
   ·have HT:Hid (bX d ⟨f,l,c⟩=tD { d with typed:=d.typed++[d.symbols.getD 1 ⟨#[]⟩] } ⟨f,l,c⟩):=by show bX d ⟨f,l,c⟩=_;unfold bX cZ;rw[k7,k8,if_pos k2];simp
    obtain⟨k2',hnl⟩:=k2;have hx:d.symbols.getD 1 ⟨#[]⟩=d.symbols[1]:=by rw[List.getD_eq_getElem?_getD,List.getElem?_eq_getElem hnl];rfl
    rw[hx]at HT;have hw8:au W (H 8) (am d.symbols):=D.own 8
    rcases hw8.ways with ⟨_,h0,_⟩ | ⟨g8,cur8,e8,-,e83,-⟩
    ·have:d.symbols.length=0:=h0
     omega
    ·have c1:=hw8.cell e8 1 (.string d.symbols[1]) (mP d.symbols 1 hnl)
     rw[e8]at q10;have hcp:d.symbols.length<=(H 8).cap:=e83;have htl:=hs.typed;clear hw8 hx;generalize d.symbols[1]=x at *;go_enter Tryz.func162,Tryz.ntmps162
     go_upto_region 1 with fail
     rw[HW.out]
     go_upto_region 3 with fail
     go_region_with (go_at_call 180;refine(rZ b t o pre post d H x _ (by exact D.still (aa.refl [] _).drew) ho (by omega)).mono ?_;rintro e w2 ⟨rfl,H2,D2,T2⟩)
     all_goals
      have hni2:=hni;have B2:=T2.1.get (by exact B) (by rintro (e | e);exact hnb e;exact hni2.out _ e rfl);have hPW:=ac B
      have hni3:Hid (∀k,cK H2 k->k≠w.heap.size):=fun k hk=>by
       rcases T2.2 k hk with h' | h'
       ·exact hni2.out k h'
       ·rintro rfl
        have h2:W.heap.size<=w.heap.size:=h';omega
      have T2':=(show Hid _ from(T2.first (aa.refl [] _).drew).first K);clear q8 q9 q10 q12 c1 T2 D B;obtain⟨q0,q1,q2,q3,q4,q5,q6,q7,q8,q9,q10,q11,q12⟩:=D2.cells o ho;clear q0 q1 q2 q3 q4 q5 q6 q7 q11;simp only at q8 q9 q10 q12;have p0:w2.cell? ⟨w.heap.size,0,none⟩=some (.string f):=by rw[ab B2];rfl
      have p1:w2.cell? ⟨w.heap.size,1,none⟩=some (.int .i64 l):=by rw[ab B2];rfl
      have p2:w2.cell? ⟨w.heap.size,2,none⟩=some (.int .i64 c):=by rw[ab B2];rfl
      have hs9:=(show Hid (dF { d with typed:=d.typed++[x] } 100000000) from⟨by have:=hs.labels;simp only;omega,by have:=hs.constants;simp only;omega,by have:=hs.variables;simp only;omega,by have:=hs.active;simp only;omega,by simp;omega,by have:=hs.blocks;simp only;omega,by have:=hs.sts;simp only;omega,by have:=hs.rbl;simp only;omega,by have:=hs.symbols;simp only;omega,by have:=hs.proof;simp only;omega⟩)
     all_goals go_upto_region 4 with fail
     all_goals go_region_held3 (fun w'=>w'.cell? ⟨b,o+8,none⟩=some (.int .i64 d.kind)/\w'.cell? ⟨b,o+9,none⟩=some (.string d.label)/\w'.cell? ⟨b,o+10,none⟩=some (.slice (H2 8).ao d.symbols.length (H2 8).cap)/\w'.cell? ⟨b,o+12,none⟩=some (.slice (H2 9).ao d.proof.length (H2 9).cap)/\w'.cell? ⟨w.heap.size,0,none⟩=some (.string f)/\w'.cell? ⟨w.heap.size,1,none⟩=some (.int .i64 l)/\w'.cell? ⟨w.heap.size,2,none⟩=some (.int .i64 c)) (go_keep) (first | (go_at_call 181;refine(pW b t o pre post { d with typed:=d.typed++[x] } H2 d.kind d.label f l c _ (by exact D2.still (aa.refl [] _).drew) ho hs9.out).mono ?_;rintro e w9 ⟨rfl,H9,D9,T9,E9⟩;obtain⟨r8,r9,r10,r12⟩:=xJ D9 ho (E9 8 (by omega) (by omega)) (E9 9 (by omega) (by omega));obtain⟨p0,p1,p2⟩:=xH T9 (by exact B2) hnb hni3.out))
     all_goals go_wp2
     all_goals go_end0
     all_goals exact⟨rfl,H9,by rw[HT.out];exact D9,ag.trans T2'.out (T9.first (aa.refl [] _).drew)⟩
   ·have HT:Hid (bX d ⟨f,l,c⟩=tD d ⟨f,l,c⟩):=by show bX d ⟨f,l,c⟩=_;unfold bX cZ;rw[k7,k8,if_neg k2];simp
    cases k2':(d.kind==2)
    rotate_left
    focus
     have hnl:¬1<d.symbols.length:=fun hh=>k2 ⟨k2',hh⟩
    all_goals
     clear k2;go_enter Tryz.func162,Tryz.ntmps162
     go_upto_region 1 with fail
     rw[HW.out]
     go_upto_region 4 with fail
     have p0:W.cell? ⟨w.heap.size,0,none⟩=some (.string f):=by rw[ab B];rfl
     have p1:W.cell? ⟨w.heap.size,1,none⟩=some (.int .i64 l):=by rw[ab B];rfl
     have p2:W.cell? ⟨w.heap.size,2,none⟩=some (.int .i64 c):=by rw[ab B];rfl
     go_region_held3 (fun w'=>w'.cell? ⟨b,o+8,none⟩=some (.int .i64 d.kind)/\w'.cell? ⟨b,o+9,none⟩=some (.string d.label)/\w'.cell? ⟨b,o+10,none⟩=some (.slice (H 8).ao d.symbols.length (H 8).cap)/\w'.cell? ⟨b,o+12,none⟩=some (.slice (H 9).ao d.proof.length (H 9).cap)/\w'.cell? ⟨w.heap.size,0,none⟩=some (.string f)/\w'.cell? ⟨w.heap.size,1,none⟩=some (.int .i64 l)/\w'.cell? ⟨w.heap.size,2,none⟩=some (.int .i64 c)) (go_keep) (first | (go_at_call 181;refine(pW b t o pre post d H d.kind d.label f l c _ (by exact D.still (aa.refl [] _).drew) ho hs8.out).mono ?_;rintro e w9 ⟨rfl,H9,D9,T9,E9⟩;obtain⟨r8,r9,r10,r12⟩:=xJ D9 ho (E9 8 (by omega) (by omega)) (E9 9 (by omega) (by omega));obtain⟨p0,p1,p2⟩:=xH T9 (by exact B) hnb hni.out))
     all_goals go_wp2
     all_goals go_end0
     all_goals exact⟨rfl,H9,by rw[HT.out];exact D9,(T9.first (aa.refl [] _).drew).first K⟩
  ·have HT:Hid (bX d ⟨f,l,c⟩=da d d.symbols.length):=by show bX d ⟨f,l,c⟩=_;unfold bX;rw[k7,k8];simp
   go_enter Tryz.func162,Tryz.ntmps162
   go_upto_region 1 with fail
   rw[HW.out];go_wp2_with fail
   go_region_with (go_at_call 179;refine(mV b t o pre post d H _ (by exact D.still (aa.refl [] _).drew) ho hm hs8.out).mono ?_;rintro e w2 ⟨rfl,H2,D2,T2⟩)
   all_goals go_wp2
   all_goals go_end0
   all_goals exact⟨rfl,H2,by rw[HT.out];exact D2,(T2.first (aa.refl [] _).drew).first K⟩
 ·have HT:Hid (bX d ⟨f,l,c⟩={ d with constants:=d.constants++d.symbols }):=by show bX d ⟨f,l,c⟩=_;unfold bX;rw[k7];simp
  go_enter Tryz.func162,Tryz.ntmps162
  go_upto_region 1 with fail
  rw[HW.out];go_wp2_with fail
  go_region_with (go_at_call 178;refine(mU b t o pre post d H _ (by exact D.still (aa.refl [] _).drew) ho hm hs8.out).mono ?_;rintro e w2 ⟨rfl,H2,D2,T2⟩)
  all_goals go_wp2
  all_goals go_end0
  all_goals exact⟨rfl,H2,by rw[HT.out];exact D2,(T2.first (aa.refl [] _).drew).first K⟩
end Go.Proofs.YtlbhbocbakijbaaGreat

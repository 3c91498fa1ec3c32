import Derived.Test.YtpddjjabfbfifaaGreatG27
namespace Go.Proofs.YtpddjjabfbfifaaGreat
open Go.RowKit
set_option maxHeartbeats 40000000
theorem nR{w:World}{h:Hd}{L:List Tk}(o:aA w h (ge L)){g:Nat}(hg:h.ao=some ⟨g,0,none⟩)(k:Nat)(t:Tk)(ht:L[k]?=some t) :
  w.cell? ⟨g,k*5,none⟩=some (.string t.s)/\w.cell? ⟨g,k*5+1,none⟩=some (.int .i64 t.rule)/\w.cell? ⟨g,k*5+2,none⟩=some (.string t.file)/\w.cell? ⟨g,k*5+3,none⟩=some (.int .i64 t.line)/\w.cell? ⟨g,k*5+4,none⟩=some (.int .i64 t.col):=by
 have e:∀c,c<5->∀u,(xR t)[c]?=some u->w.cell? ⟨g,k*5+c,none⟩=some u:=fun c hc u hu=>o.cell hg (k*5+c) u (by show(KZ L)[k*5+c]?=some u;rw[KE L k t ht c hc];exact hu)
 exact⟨e 0 (by omega) _ rfl,e 1 (by omega) _ rfl,e 2 (by omega) _ rfl,e 3 (by omega) _ rfl,e 4 (by omega) _ rfl⟩
theorem od{w:World}{h:Hd}{r:dK}(o:aA w h r)(hn:0<r.n):∃g,h.ao=some ⟨g,0,none⟩/\g<w.heap.size/\r.n<=h.cap:=by
 rcases o.ways with ⟨_,h0,_⟩ | ⟨g,cur,e1,e2,e3,-⟩
 ·omega
 ·exact⟨g,e1,ae e2,e3⟩
structure Iw(w wr:World)(h:Hd)(O:List Tk):Prop where
 own:aA wr h (ge O)
 far:∀k,h.blk=some k->w.heap.size<=k
 kept:ab [] w wr
theorem Iw.still{w wr wr':World}{h:Hd}{O:List Tk}(a:Iw w wr h O)(k:ab [] wr wr'):Iw w wr' h O:=⟨a.own.still k,a.far,a.kept.trans k⟩
theorem Iw.grew{w wr wr':World}{h h':Hd}{O O':List Tk}(a:Iw w wr h O)(g:bh wr wr' h h')(o:aA wr' h' (ge O')):Iw w wr' h' O':=by
 refine⟨o,fun k hk=>?_,⟨g.kept.os.trans a.kept.os,g.kept.tape.trans a.kept.tape,g.kept.output.trans a.kept.output,Nat.le_trans a.kept.size g.kept.size,fun k hk _=>?_⟩⟩
 ·rcases g.blk with e | ⟨q,e,hq⟩
  ·exact a.far k (by rw[<-e];exact hk)
  ·rw[e]at hk;cases hk
   exact Nat.le_trans a.kept.size hq
 ·rw[g.kept.block k (Nat.lt_of_lt_of_le hk a.kept.size) (fun hq=>by have:=a.far _ (aK hq);omega),a.kept.block k hk (by simp)]
def jU(w:World)(ao:Option Addr)(cap:Nat)(L:List Tk):Prop:=L.length<=cap/\∀k t,L[k]?=some t->∃g,ao=some ⟨g,0,none⟩/\g<w.heap.size /\
  w.cell? ⟨g,k*5,none⟩=some (.string t.s)/\w.cell? ⟨g,k*5+1,none⟩=some (.int .i64 t.rule)/\w.cell? ⟨g,k*5+2,none⟩=some (.string t.file)/\w.cell? ⟨g,k*5+3,none⟩=some (.int .i64 t.line)/\w.cell? ⟨g,k*5+4,none⟩=some (.int .i64 t.col)
theorem aA.src{w:World}{h:Hd}{L:List Tk}(o:aA w h (ge L)):jU w h.ao h.cap L:=by
 refine⟨?_,fun k t ht=>?_⟩
 ·rcases o.ways with ⟨e,h0,_⟩ | ⟨g,cur,e1,e2,e3,-⟩
  ·have h0:L.length=0:=h0
   omega
  ·exact e3
 ·have hk:=(List.getElem?_eq_some_iff.1 ht).1
  obtain⟨g,eg,hg,-⟩:=od o (show 0<L.length by omega);exact⟨g,eg,hg,nR o eg k t ht⟩
theorem jU.still{w w':World}{ao:Option Addr}{cap:Nat}{L:List Tk}(h:jU w ao cap L)(k:ab [] w w'):jU w' ao cap L:=by
 refine⟨h.1,fun j t ht=>?_⟩;obtain⟨g,e,hg,c⟩:=h.2 j t ht;obtain⟨c0,c1,c2,c3,c4⟩:=c;have q:∀o,w'.cell? ⟨g,o,none⟩=w.cell? ⟨g,o,none⟩:=fun o=>World.cell?_of_block (k.block g hg (by simp))
 exact⟨g,e,Nat.lt_of_lt_of_le hg k.size,by rw[q];exact c0,by rw[q];exact c1,by rw[q];exact c2,by rw[q];exact c3,by rw[q];exact c4⟩
set_option maxRecDepth 100000 in
theorem E5(L:List Tk)(ao:Option Addr)(cap:Nat)(w:World)(hL:L.length<=100000)(hO:jU w ao cap L)(hs:∀t∈L,t.s.size<=1073741824) :
  Calls Tryz.prog 116 #[.slice ao L.length cap] w fun e w'=>∃h',e=.returned (.slice h'.ao (bJ false L).length h'.cap)/\Iw w w' h' (bJ false L):=by
 have S0:Hid (Iw w w ⟨none,0⟩ []):=⟨World.ownsRow_nil _ _ _ _,(by intro k hk;cases hk),ab.refl _ _⟩;have hcap:=hO.1;have HO:=(show Hid _ from hO);clear hO;go_enter Tryz.func116,Tryz.ntmps116;go_wp2
 go_loopg [3,4,5] L.length (fun g o ins i wr=>∃(k:Nat) (h':Hd) (O:List Tk) (b:Bool),k<=L.length/\g=L.length-k/\o=.slice h'.ao O.length h'.cap/\ins=.bool b/\i=.int .i64 k/\O.length<=k/\Hid (O++bJ b (L.drop k)=bJ false L)/\Hid (Iw w wr h' O))
 case atStart=>exact⟨0,⟨none,0⟩,[],false,by omega,rfl,rfl,rfl,rfl,Nat.le_refl _,rfl,S0⟩
 case round =>
  obtain⟨k,h',O,b,hk,hg,rfl,rfl,rfl,hOl,HE,HW⟩:=hrel
  by_cases hlt:k<L.length
  ·obtain⟨gs,rfl,hgs,q0,q1,q2,q3,q4⟩:=(jU.still HO.out HW.out.kept).2 k L[k] (List.getElem?_eq_getElem hlt)
   have HD:=(show Hid _ from List.drop_eq_getElem_cons hlt);have hts:=hs L[k] (List.getElem_mem hlt);have hki:(k:Int)<(L.length:Int):=by omega
   rw[HD.out]at HE;generalize L[k]=t at *;obtain⟨ts,tr,tf,tl,tc⟩:=t;simp only at q0 q1 q2 q3 q4 hts;obtain⟨W,HWW⟩:∃W,Hid (wr.alloc (.cells #[.string ts,.int .i64 tr,.string tf,.int .i64 tl,.int .i64 tc] 138)=W):=⟨_,rfl⟩
   have BW:W.heap[wr.heap.size]?=some (.cells #[.string ts,.int .i64 tr,.string tf,.int .i64 tl,.int .i64 tc] 138 (0,0)):=by rw[<-HWW.out];exact heap_alloc_new _ _
   have p0:W.cell? ⟨wr.heap.size,0,none⟩=some (.string ts):=by rw[aa BW];rfl
   have p1:W.cell? ⟨wr.heap.size,1,none⟩=some (.int .i64 tr):=by rw[aa BW];rfl
   have p2:W.cell? ⟨wr.heap.size,2,none⟩=some (.string tf):=by rw[aa BW];rfl
   have p3:W.cell? ⟨wr.heap.size,3,none⟩=some (.int .i64 tl):=by rw[aa BW];rfl
   have p4:W.cell? ⟨wr.heap.size,4,none⟩=some (.int .i64 tc):=by rw[aa BW];rfl
   have y1:=ae BW;have HWS:Hid (Iw w W h' O):=HW.out.still (by rw[<-HWW.out];exact(ab.refl [] _).alloc _);have hOW:=HWS.out.own
   go_upto_region 7 with fail
   rw[HWW.out];clear q0 q1 q2 q3 q4 HWW BW
   go_upto_region 9 with (go_at_call 120;refine(eL ts _ _ (by omega) (by show 2<=_;omega)).mono ?_;rintro e w1 ⟨rfl,hw1⟩;rw[hw1];clear hw1)
   cases b
   ·cases ho:(ts.toList == [36,40])
    ·have HN:Hid ((O++[⟨ts,tr,tf,tl,tc⟩])++bJ false (L.drop (k+1))=bJ false L):=by
      show _=_
      rw[<-HE.out,bJ,if_neg (by show ¬(ts.toList == [36,40])=true;rw[ho];simp)];simp
     go_wp2_with (at_builtin;refine bP W rfl (.tmp 41) (.tmp 43) rfl h' O ⟨ts,tr,tf,tl,tc⟩ rfl hOW (by omega) rfl ?_;intro h5 w5 hw5 hg5;have HM:=(show Hid _ from HWS.out.grew hg5 hw5);clear hw5 hg5)
     go_roundg (L.length-(k+1))
     case measure=>omega
     case rel=>exact⟨k+1,h5,O++[⟨ts,tr,tf,tl,tc⟩],false,by omega,rfl,by simp,rfl,by go_num,by simp;omega,HN,HM⟩
    ·have HN:Hid (O++bJ true (L.drop (k+1))=bJ false L):=by
      show _=_
      rw[<-HE.out,bJ,if_pos (by show(ts.toList == [36,40])=true;exact ho)]
     go_wp2
     go_roundg (L.length-(k+1))
     case measure=>omega
     case rel=>exact⟨k+1,h',O,true,by omega,rfl,rfl,rfl,by go_num,by omega,HN,HWS⟩
   ·cases hr:(tr==0)
    ·have HN:Hid ((O++[⟨ts,tr,tf,tl,tc⟩])++bJ true (L.drop (k+1))=bJ false L):=by
      show _=_
      rw[<-HE.out,bJ,if_pos (by exact hr)];simp
     go_wp2_with (at_builtin;refine bP W rfl (.tmp 41) (.tmp 43) rfl h' O ⟨ts,tr,tf,tl,tc⟩ rfl hOW (by omega) rfl ?_;intro h5 w5 hw5 hg5;have HM:=(show Hid _ from HWS.out.grew hg5 hw5);clear hw5 hg5)
     go_roundg (L.length-(k+1))
     case measure=>omega
     case rel=>exact⟨k+1,h5,O++[⟨ts,tr,tf,tl,tc⟩],true,by omega,rfl,by simp,rfl,by go_num,by simp;omega,HN,HM⟩
    ·have hr0:tr=0:=by simpa using hr
     subst hr0;clear hr
     cases h1:(ts.toList == [36,41])
     ·cases h2:(ts.toList == [])
      ·cases h3:(fX ts ⟨#[36,40]⟩||fX ts ⟨#[36,41]⟩)
       ·have HN:Hid (O++bJ true (L.drop (k+1))=bJ false L):=by
         show _=_
         rw[<-HE.out,bJ,if_neg (by simp),if_neg (by show ¬(ts.toList == [36,41])=true;rw[h1];simp),if_neg (by show ¬(ts.toList == [])=true;rw[h2];simp),if_neg (by rw[h3];simp)]
        simp only[Bool.or_eq_false_iff]at h3;obtain⟨h3,h4⟩:=h3;rw[h3,h4];go_wp2
        go_roundg (L.length-(k+1))
        case measure=>omega
        case rel=>exact⟨k+1,h',O,true,by omega,rfl,rfl,rfl,by go_num,by omega,HN,HWS⟩
       ·have HN:Hid (bJ false L=O++[⟨⟨#[]⟩,2,tf,tl,tc⟩]):=by
         show _=_
         rw[<-HE.out,bJ,if_neg (by simp),if_neg (by show ¬(ts.toList == [36,41])=true;rw[h1];simp),if_neg (by show ¬(ts.toList == [])=true;rw[h2];simp),if_pos (by rw[h3])]
        cases h4:fX ts ⟨#[36,40]⟩
        ·rw[h4,Bool.false_or]at h3
         rw[h3];go_wp2_with (at_builtin;refine bP W rfl (.tmp 64) (.tmp 68) rfl h' O ⟨⟨#[]⟩,2,tf,tl,tc⟩ rfl hOW (by omega) rfl ?_;intro h5 w5 hw5 hg5;have HM:=(show Hid _ from HWS.out.grew hg5 hw5);clear hw5 hg5);go_ret;exact⟨h5,by rw[HN.out];simp,by rw[HN.out];exact HM.out⟩
        ·clear h3
         go_wp2_with (at_builtin;refine bP W rfl (.tmp 64) (.tmp 68) rfl h' O ⟨⟨#[]⟩,2,tf,tl,tc⟩ rfl hOW (by omega) rfl ?_;intro h5 w5 hw5 hg5;have HM:=(show Hid _ from HWS.out.grew hg5 hw5);clear hw5 hg5);go_ret;exact⟨h5,by rw[HN.out];simp,by rw[HN.out];exact HM.out⟩
      ·have HN:Hid ((O++[⟨⟨#[]⟩,3,tf,tl,tc⟩])++bJ true (L.drop (k+1))=bJ false L):=by
        show _=_
        rw[<-HE.out,bJ,if_neg (by simp),if_neg (by show ¬(ts.toList == [36,41])=true;rw[h1];simp),if_pos (by exact h2)];simp
       go_wp2_with (at_builtin;refine bP W rfl (.tmp 53) (.tmp 57) rfl h' O ⟨⟨#[]⟩,3,tf,tl,tc⟩ rfl hOW (by omega) rfl ?_;intro h5 w5 hw5 hg5;have HM:=(show Hid _ from HWS.out.grew hg5 hw5);clear hw5 hg5)
       go_roundg (L.length-(k+1))
       case measure=>omega
       case rel=>exact⟨k+1,h5,O++[⟨⟨#[]⟩,3,tf,tl,tc⟩],true,by omega,rfl,by simp,rfl,by go_num,by simp;omega,HN,HM⟩
     ·have HN:Hid (O++bJ false (L.drop (k+1))=bJ false L):=by
       show _=_
       rw[<-HE.out,bJ,if_neg (by simp),if_pos (by exact h1)]
      go_wp2
      go_roundg (L.length-(k+1))
      case measure=>omega
      case rel=>exact⟨k+1,h',O,false,by omega,rfl,rfl,rfl,by go_num,by omega,HN,HWS⟩
  ·have e:L.drop k=[]:=List.drop_eq_nil_of_le (by omega)
   have HN:Hid (bJ false L=O):=by
    show _=_
    rw[<-HE.out,e]
    cases b <;> simp[bJ]
   go_wp2;go_ret;exact⟨h',by rw[HN.out];rfl,by rw[HN.out];exact HW.out⟩
def b7(s:ByteArray):Bool:=(s.toList == [36,46])||(s.toList == [36,123])||(s.toList == [36,125])
def aY(n:Int)(s:ByteArray):Int :=
 if(s.toList == [36,125])=true then(if(s.toList == [36,123])=true then n+1 else n)-1 else(if(s.toList == [36,123])=true then n+1 else n)
def iC(L:List Tk):Int:=L.foldl (fun n t=>aY n t.s) 0
def cZ(L:List Tk):Bool:=match L.getLast? with
 | none=>true
 | some t=>b7 t.s&&(iC L==0)
def dI(L:List Tk):Bool:=match L.getLast? with
 | none=>false
 | some t=>!(t.rule==0)
theorem BY(L:List Tk)(k:Nat)(h:k<L.length):iC (L.take (k+1))=aY (iC (L.take k)) L[k].s:=by
 unfold iC;rw[List.take_succ_eq_append_getElem h,List.foldl_append];rfl
theorem rA(s:ByteArray)(w:World) :
  Calls Tryz.prog 84 #[.string s] w fun e w'=>e=.returned (.bool (b7 s))/\w'=w:=by
 go_enter Tryz.func84,Tryz.ntmps84;go_wp2
 all_goals go_ret
 all_goals (refine⟨?_,rfl⟩;simp[b7, *])
set_option maxRecDepth 100000 in
theorem BU(L:List Tk)(ao:Option Addr)(cap:Nat)(w:World)(hL:L.length<=100000)(hO:jU w ao cap L) :
  Calls Tryz.prog 167 #[.slice ao L.length cap] w fun e w'=>e=.returned (.int .i64 (iC L))/\w'=w:=by
 have hcap:=hO.1;have HO:=(show Hid _ from hO);clear hO;go_enter Tryz.func167,Tryz.ntmps167;go_wp2
 go_loopg [3,4] L.length (fun g n i wr=>∃(k:Nat) (m:Int),k<=L.length/\g=L.length-k/\n=.int .i64 m/\i=.int .i64 k/\(-(k:Int)<=m/\m<=(k:Int))/\Hid (m=iC (L.take k))/\wr=w)
 case atStart=>exact⟨0,0,by omega,rfl,rfl,rfl,by omega,rfl,rfl⟩
 case round =>
  obtain⟨k,m,hk,hg,rfl,rfl,hm,HM,rfl⟩:=hrel
  by_cases hlt:k<L.length
  ·obtain⟨gs,rfl,hgs,q0,-⟩:=HO.out.2 k L[k] (List.getElem?_eq_getElem hlt)
   have HN:=(show Hid _ from BY L k hlt);have hki:(k:Int)<(L.length:Int):=by omega
   rw[<-HM.out]at HN;generalize L[k]=t at *;obtain⟨ts,tr,tf,tl,tc⟩:=t;simp only at q0 HN
   cases h1:(ts.toList == [36,123])
   ·cases h2:(ts.toList == [36,125])
    ·have HE:Hid (m=iC (L.take (k+1))):=by show _=_;rw[HN.out,aY,h1,h2];simp
     go_wp2
     go_roundg (L.length-(k+1))
     case measure=>omega
     case rel=>exact⟨k+1,m,by omega,rfl,rfl,by go_num,by omega,HE,rfl⟩
    ·have HE:Hid (m-1=iC (L.take (k+1))):=by show _=_;rw[HN.out,aY,h1,h2];simp
     go_wp2
     go_roundg (L.length-(k+1))
     case measure=>omega
     case rel=>exact⟨k+1,m-1,by omega,rfl,by go_num,by go_num,by omega,HE,rfl⟩
   ·cases h2:(ts.toList == [36,125])
    ·have HE:Hid (m+1=iC (L.take (k+1))):=by show _=_;rw[HN.out,aY,h1,h2];simp
     go_wp2
     go_roundg (L.length-(k+1))
     case measure=>omega
     case rel=>exact⟨k+1,m+1,by omega,rfl,by go_num,by go_num,by omega,HE,rfl⟩
    ·have a1:ts.toList=[36,123]:=by simpa using h1
     rw[a1]at h2;exact absurd h2 (by decide)
  ·have e:k=L.length:=by omega
   subst e;rw[List.take_length]at HM;go_wp2;go_ret;exact⟨am HM.out,rfl⟩
set_option maxRecDepth 100000 in
theorem xM(L:List Tk)(ao:Option Addr)(cap:Nat)(w:World)(hL:L.length<=100000)(hO:jU w ao cap L) :
  Calls Tryz.prog 117 #[.slice ao L.length cap] w fun e w'=>e=.returned (.bool (cZ L))/\w'=w:=by
 have hcap:=hO.1;have HDP:=(show Hid _ from BU L ao cap w hL hO);obtain⟨n,HNL⟩:∃n,Hid (L.length=n):=⟨_,rfl⟩
 rw[HNL.out]at hL hcap HDP ⊢
 by_cases hn:n=0
 ·have HB:Hid (cZ L=true):=by
   show _=_
   have:L=[]:=List.eq_nil_of_length_eq_zero (by rw[HNL.out,hn]);rw[this];rfl
  subst hn;go_enter Tryz.func117,Tryz.ntmps117;go_wp2;go_ret;exact⟨aB HB.out.symm,rfl⟩
 ·have hlt:n-1<L.length:=by rw[HNL.out];omega
  obtain⟨gs,rfl,hgs,q0,-⟩:=hO.2 (n-1) L[n-1] (List.getElem?_eq_getElem hlt)
  have HB:Hid (cZ L=(b7 L[n-1].s&&(iC L==0))):=by
   show _=_
   unfold cZ;rw[List.getLast?_eq_getElem?,HNL.out,List.getElem?_eq_getElem hlt]
  generalize L[n-1]=t at *;obtain⟨ts,tr,tf,tl,tc⟩:=t;simp only at q0 HB;have hwr:IntKind.i64.wrap ((n:Int)-1)=(n:Int)-1:=by rw[IntKind.wrap_i64];omega
  have htn:((n:Int)-1).toNat=n-1:=by omega
  have b1:(0:Int)<=(n:Int)-1:=by omega
  have b2:(n:Int)-1<(n:Int):=by omega
  have b3:(1:Int)<=(n:Int):=by omega
  have b4:((n:Int)==0)=false:=by simpa using hn
  obtain⟨D,HD⟩:∃D,Hid (iC L=D):=⟨_,rfl⟩
  rw[HD.out]at HB HDP;go_enter Tryz.func117,Tryz.ntmps117;go_wp2_with (first | (go_at_call 167;refine(Calls.mono HDP.out ?_);rintro e w1 ⟨rfl,hw1⟩;rw[hw1];clear hw1) | (go_at_call 84;refine(rA ts _).mono ?_;rintro e w1 ⟨rfl,hw1⟩;rw[hw1];clear hw1))
  all_goals go_ret
  all_goals (refine⟨aB ?_,rfl⟩;rw[HB.out];simp[*])
set_option maxRecDepth 100000 in
theorem rG(L:List Tk)(ao:Option Addr)(cap:Nat)(w:World)(hL:L.length<=100000)(hO:jU w ao cap L) :
  Calls Tryz.prog 83 #[.slice ao L.length cap] w fun e w'=>e=.returned (.bool (dI L))/\w'=w:=by
 have hcap:=hO.1;obtain⟨n,HNL⟩:∃n,Hid (L.length=n):=⟨_,rfl⟩
 rw[HNL.out]at hL hcap ⊢
 by_cases hn:n=0
 ·have HB:Hid (dI L=false):=by
   show _=_
   have:L=[]:=List.eq_nil_of_length_eq_zero (by rw[HNL.out,hn]);rw[this];rfl
  subst hn;go_enter Tryz.func83,Tryz.ntmps83;go_wp2;go_ret;exact⟨aB HB.out.symm,rfl⟩
 ·have hlt:n-1<L.length:=by rw[HNL.out];omega
  obtain⟨gs,rfl,hgs,-,q1,-⟩:=hO.2 (n-1) L[n-1] (List.getElem?_eq_getElem hlt)
  have HB:Hid (dI L=!(L[n-1].rule==0)):=by
   show _=_
   unfold dI;rw[List.getLast?_eq_getElem?,HNL.out,List.getElem?_eq_getElem hlt]
  generalize L[n-1]=t at *;obtain⟨ts,tr,tf,tl,tc⟩:=t;simp only at q1 HB;have hwr:IntKind.i64.wrap ((n:Int)-1)=(n:Int)-1:=by rw[IntKind.wrap_i64];omega
  have htn:((n:Int)-1).toNat=n-1:=by omega
  have b1:(0:Int)<=(n:Int)-1:=by omega
  have b2:(n:Int)-1<(n:Int):=by omega
  have b3:(1:Int)<=(n:Int):=by omega
  have b4:(0:Int)<(n:Int):=by omega
  have b5:0<n:=by omega
  go_enter Tryz.func83,Tryz.ntmps83;go_wp2
  all_goals go_ret
  all_goals (refine⟨aB ?_,rfl⟩;rw[HB.out];first | rfl | simp[*])
def lR(w:World)(ao:Option Addr)(cap:Nat)(fs:Fs):Prop:=fs.length<=cap/\∀k,k<fs.length->∃g,ao=some ⟨g,0,none⟩/\g<w.heap.size/\w.cell? ⟨g,k*2,none⟩=some (.string (aC fs k))/\w.cell? ⟨g,k*2+1,none⟩=some (.string (aj fs k))
theorem lR.still{w w':World}{ao:Option Addr}{cap:Nat}{fs:Fs}(h:lR w ao cap fs)(k:ab [] w w'):lR w' ao cap fs:=by
 refine⟨h.1,fun j hj=>?_⟩;obtain⟨g,e,hg,c0,c1⟩:=h.2 j hj;have q:∀o,w'.cell? ⟨g,o,none⟩=w.cell? ⟨g,o,none⟩:=fun o=>World.cell?_of_block (k.block g hg (by simp))
 exact⟨g,e,Nat.lt_of_lt_of_le hg k.size,by rw[q];exact c0,by rw[q];exact c1⟩
theorem kY(fs:Fs)(ao:Option Addr)(cap:Nat)(n:ByteArray)(w:World)(hL:fs.length<=100000)(hO:lR w ao cap fs) :
  Calls Tryz.prog 35 #[.slice ao fs.length cap,.string n] w fun e w'=>e=.returned (.int .i64 (bt fs n))/\w'=w:=by
 have hcap:=hO.1;have HO:=(show Hid _ from hO);clear hO;go_enter Tryz.func35,Tryz.ntmps35;go_wp2
 go_loopg [5] fs.length (fun g i wr=>∃k:Nat,k<=fs.length/\g=fs.length-k/\i=.int .i64 k/\Hid (bt fs n=cY n (fs.drop k) k)/\wr=w)
 case atStart=>exact⟨0,by omega,by omega,rfl,rfl,rfl⟩
 case round =>
  obtain⟨k,hk,hg,rfl,hall,rfl⟩:=hrel
  by_cases hlt:k<fs.length
  ·obtain⟨gs,rfl,hgs,q0,q1⟩:=HO.out.2 k hlt
   have hki:(k:Int)<(fs.length:Int):=by omega
   cases hb:((aC fs k).toList==n.toList)
   ·have HM:Hid (bt fs n=cY n (fs.drop (k+1)) (k+1)):=we fs n k hlt hall.out hb
    clear hall;go_wp2
    go_roundg (fs.length-(k+1))
    case measure=>omega
    case rel=>exact⟨k+1,by omega,rfl,by go_num,HM,rfl⟩
   ·have HM:Hid (bt fs n=k):=zA fs n k hlt hall.out hb
    clear hall;go_wp2;go_ret;exact⟨am HM.out.symm,rfl⟩
  ·have HM:Hid (bt fs n=-1):=wh fs n k hlt hall.out
   clear hall;go_wp2;go_ret;exact⟨am HM.out.symm,rfl⟩
def cM(fs:Fs)(s:ByteArray)(r:Int):Int :=
 if(r==0)=false then r else if(s.toList == [])=true then 7 else if fX s ⟨#[36]⟩=true then 5 else if bt fs s<0 then 6 else 0
def di(s:ByteArray)(r:Int):Int :=
 if(r==0)=false then r else if(s.toList == [])=true then 7 else if(s.toList == [36,93])=false then 5 else 0
set_option maxRecDepth 100000 in
theorem yY(ts tf:ByteArray)(tr tl tc:Int)(w:World) :
  Calls Tryz.prog 119 #[.agg #[.string ts,.int .i64 tr,.string tf,.int .i64 tl,.int .i64 tc]] w fun e w'=>e=.returned (.agg #[.string ⟨#[]⟩,.int .i64 (di ts tr),.string tf,.int .i64 tl,.int .i64 tc])/\ab [] w w':=by
 cases hr:(tr==0)
 ·have HE:Hid (di ts tr=tr):=by show _=_;unfold di;rw[if_pos hr]
  rw[HE.out];go_enter Tryz.func119,Tryz.ntmps119;go_wp2;exact bodyPost_ret (v:=.agg #[.string ⟨#[]⟩,.int .i64 tr,.string tf,.int .i64 tl,.int .i64 tc]) (by simp[results,Tryz.results119,go_sem]) rfl ⟨rfl,((ab.refl _ _).alloc _).alloc _⟩
 ·have hr0:tr=0:=by simpa using hr
  subst hr0;clear hr
  cases h1:(ts.toList == [])
  ·cases h2:(ts.toList == [36,93])
   ·have HE:Hid (di ts 0=5):=by show _=_;unfold di;rw[if_neg (by simp),if_neg (by rw[h1];simp),if_pos h2]
    rw[HE.out];go_enter Tryz.func119,Tryz.ntmps119;go_wp2;exact bodyPost_ret (v:=.agg #[.string ⟨#[]⟩,.int .i64 5,.string tf,.int .i64 tl,.int .i64 tc]) (by simp[results,Tryz.results119,go_sem]) rfl ⟨rfl,((ab.refl _ _).alloc _).alloc _⟩
   ·have HE:Hid (di ts 0=0):=by show _=_;unfold di;rw[if_neg (by simp),if_neg (by rw[h1];simp),if_neg (by rw[h2];simp)]
    rw[HE.out];go_enter Tryz.func119,Tryz.ntmps119;go_wp2;exact bodyPost_ret (v:=.agg #[.string ⟨#[]⟩,.int .i64 0,.string tf,.int .i64 tl,.int .i64 tc]) (by simp[results,Tryz.results119,go_sem]) rfl ⟨rfl,((ab.refl _ _).alloc _).alloc _⟩
  ·have HE:Hid (di ts 0=7):=by show _=_;unfold di;rw[if_neg (by simp),if_pos h1]
   rw[HE.out];go_enter Tryz.func119,Tryz.ntmps119;go_wp2;exact bodyPost_ret (v:=.agg #[.string ⟨#[]⟩,.int .i64 7,.string tf,.int .i64 tl,.int .i64 tc]) (by simp[results,Tryz.results119,go_sem]) rfl ⟨rfl,((ab.refl _ _).alloc _).alloc _⟩
set_option maxRecDepth 100000 in
theorem Al(fs:Fs)(ao:Option Addr)(cap:Nat)(ts tf:ByteArray)(tr tl tc:Int)(w:World)(hL:fs.length<=100000)(hO:lR w ao cap fs)(hts:ts.size<=1073741824) :
  Calls Tryz.prog 118 #[.slice ao fs.length cap,.agg #[.string ts,.int .i64 tr,.string tf,.int .i64 tl,.int .i64 tc]] w fun e w'=>e=.returned (.agg #[.string ⟨#[]⟩,.int .i64 (cM fs ts tr),.string tf,.int .i64 tl,.int .i64 tc])/\ab [] w w':=by
 have HFN:Hid (∀wx,ab [] w wx->Calls Tryz.prog 35 #[.slice ao fs.length cap,.string ts] wx fun e w'=>e=.returned (.int .i64 (bt fs ts))/\w'=wx):=fun wx k=>kY fs ao cap ts wx hL (hO.still k)
 obtain⟨fd,HFD⟩:∃fd,Hid (bt fs ts=fd):=⟨_,rfl⟩
 rw[HFD.out]at HFN
 cases hr:(tr==0)
 ·have HE:Hid (cM fs ts tr=tr):=by show _=_;unfold cM;rw[if_pos hr]
  rw[HE.out];go_enter Tryz.func118,Tryz.ntmps118;go_wp2_with (first | (go_at_call 120;refine(eL ts _ _ (by omega) (by show 1<=_;omega)).mono ?_;rintro e w1 ⟨rfl,hw1⟩;rw[hw1];clear hw1) | (go_at_call 35;refine(HFN.out _ (by exact((ab.refl [] w).alloc _).alloc _)).mono ?_;rintro e w1 ⟨rfl,hw1⟩;rw[hw1];clear hw1));exact bodyPost_ret (v:=.agg #[.string ⟨#[]⟩,.int .i64 tr,.string tf,.int .i64 tl,.int .i64 tc]) (by simp[results,Tryz.results118,go_sem]) rfl ⟨rfl,((ab.refl _ _).alloc _).alloc _⟩
 ·have hr0:tr=0:=by simpa using hr
  subst hr0;clear hr
  cases h1:(ts.toList == [])
  ·cases h2:fX ts ⟨#[36]⟩
   ·by_cases h3:fd<0
    ·have HE:Hid (cM fs ts 0=6):=by show _=_;unfold cM;rw[if_neg (by simp),if_neg (by rw[h1];simp),if_neg (by rw[h2];simp),HFD.out,if_pos h3]
     rw[HE.out];go_enter Tryz.func118,Tryz.ntmps118;go_wp2_with (first | (go_at_call 120;refine(eL ts _ _ (by omega) (by show 1<=_;omega)).mono ?_;rintro e w1 ⟨rfl,hw1⟩;rw[hw1];clear hw1) | (go_at_call 35;refine(HFN.out _ (by exact((ab.refl [] w).alloc _).alloc _)).mono ?_;rintro e w1 ⟨rfl,hw1⟩;rw[hw1];clear hw1));exact bodyPost_ret (v:=.agg #[.string ⟨#[]⟩,.int .i64 6,.string tf,.int .i64 tl,.int .i64 tc]) (by simp[results,Tryz.results118,go_sem]) rfl ⟨rfl,((ab.refl _ _).alloc _).alloc _⟩
    ·have HE:Hid (cM fs ts 0=0):=by show _=_;unfold cM;rw[if_neg (by simp),if_neg (by rw[h1];simp),if_neg (by rw[h2];simp),HFD.out,if_neg h3]
     rw[HE.out];go_enter Tryz.func118,Tryz.ntmps118;go_wp2_with (first | (go_at_call 120;refine(eL ts _ _ (by omega) (by show 1<=_;omega)).mono ?_;rintro e w1 ⟨rfl,hw1⟩;rw[hw1];clear hw1) | (go_at_call 35;refine(HFN.out _ (by exact((ab.refl [] w).alloc _).alloc _)).mono ?_;rintro e w1 ⟨rfl,hw1⟩;rw[hw1];clear hw1));exact bodyPost_ret (v:=.agg #[.string ⟨#[]⟩,.int .i64 0,.string tf,.int .i64 tl,.int .i64 tc]) (by simp[results,Tryz.results118,go_sem]) rfl ⟨rfl,((ab.refl _ _).alloc _).alloc _⟩
   ·have HE:Hid (cM fs ts 0=5):=by show _=_;unfold cM;rw[if_neg (by simp),if_neg (by rw[h1];simp),if_pos h2]
    rw[HE.out];go_enter Tryz.func118,Tryz.ntmps118;go_wp2_with (first | (go_at_call 120;refine(eL ts _ _ (by omega) (by show 1<=_;omega)).mono ?_;rintro e w1 ⟨rfl,hw1⟩;rw[hw1];clear hw1) | (go_at_call 35;refine(HFN.out _ (by exact((ab.refl [] w).alloc _).alloc _)).mono ?_;rintro e w1 ⟨rfl,hw1⟩;rw[hw1];clear hw1));exact bodyPost_ret (v:=.agg #[.string ⟨#[]⟩,.int .i64 5,.string tf,.int .i64 tl,.int .i64 tc]) (by simp[results,Tryz.results118,go_sem]) rfl ⟨rfl,((ab.refl _ _).alloc _).alloc _⟩
  ·have HE:Hid (cM fs ts 0=7):=by show _=_;unfold cM;rw[if_neg (by simp),if_pos h1]
   rw[HE.out];go_enter Tryz.func118,Tryz.ntmps118;go_wp2_with (first | (go_at_call 120;refine(eL ts _ _ (by omega) (by show 1<=_;omega)).mono ?_;rintro e w1 ⟨rfl,hw1⟩;rw[hw1];clear hw1) | (go_at_call 35;refine(HFN.out _ (by exact((ab.refl [] w).alloc _).alloc _)).mono ?_;rintro e w1 ⟨rfl,hw1⟩;rw[hw1];clear hw1));exact bodyPost_ret (v:=.agg #[.string ⟨#[]⟩,.int .i64 7,.string tf,.int .i64 tl,.int .i64 tc]) (by simp[results,Tryz.results118,go_sem]) rfl ⟨rfl,((ab.refl _ _).alloc _).alloc _⟩
def so(L:List Tk):Prop:=∃t,L.getLast?=some t/\(t.s.toList == [])=true
theorem so.next{L:List Tk}(h:so L)(i:Nat)(t:Tk)(hi:L[i]?=some t)(hs:(t.s.toList == [])=false):i+1<L.length:=by
 obtain⟨u,h1,h2⟩:=h;obtain⟨hl,-⟩:=List.getElem?_eq_some_iff.1 hi;rw[List.getLast?_eq_getElem?]at h1
 by_cases e:i=L.length-1
 ·rw[<-e,hi]at h1
  cases h1
  rw[h2]at hs
  cases hs
 ·omega
theorem rd{t:Tk}{L:List Tk}(h:so L):so (t :: L):=by
 obtain⟨u,h1,h2⟩:=h
 cases L with
 | nil=>cases h1
 | cons a r=>exact⟨u,by rw[List.getLast?_cons_cons];exact h1,h2⟩
theorem mw:((⟨#[]⟩:ByteArray).toList == [])=true:=by decide +kernel
theorem yK(f:ByteArray)(r l c:Int):so [⟨⟨#[]⟩,r,f,l,c⟩]:=⟨_,rfl,mw⟩
theorem Fb(nm d:ByteArray):so (fR nm d):=by
 unfold fR
 split
 ·exact⟨_,List.getLast?_concat,mw⟩
 ·exact⟨_,List.getLast?_concat,mw⟩
theorem Dq(b:Bool)(L:List Tk)(h:so L):so (bJ b L):=by
 induction L generalizing b with
 | nil=>obtain⟨u,h1,-⟩:=h;cases h1
 | cons t r ih =>
  cases r with
  | nil =>
   obtain⟨u,h1,h2⟩:=h;have e:u=t:=by simpa using h1.symm
   subst e;have e0:u.s.toList=[]:=by simpa using h2
   cases b
   ·rw[bJ,if_neg (by unfold Ab;rw[e0];decide)]
    exact⟨u,rfl,h2⟩
   ·rw[bJ]
    split
    ·exact⟨u,rfl,h2⟩
    ·rw[if_neg (by unfold Ab;rw[e0];decide),if_pos (by unfold Ab;exact h2)]
     exact yK _ _ _ _
  | cons a r =>
   have hr:so (a :: r):=by
    obtain⟨u,h1,h2⟩:=h;exact⟨u,by rw[List.getLast?_cons_cons]at h1;exact h1,h2⟩
   cases b
   ·rw[bJ]
    split
    ·exact ih true hr
    ·exact rd (ih false hr)
   ·rw[bJ]
    split
    ·exact rd (ih true hr)
    ·split
     ·exact ih false hr
     ·split
      ·exact rd (ih true hr)
      ·split
       ·exact yK _ _ _ _
       ·exact ih true hr
def oL(fs:Fs)(k:Nat):List Tk:=bJ false (fR (aC fs k) (aj fs k))
theorem Io(fs:Fs)(k:Nat):so (oL fs k):=Dq _ _ (Fb _ _)
theorem ye(fs:Fs)(k:Nat):(oL fs k).length<=(aj fs k).size+2:=Nat.le_trans (G0 _ _) (vZ _ _)
def oN(t:Tk)(r:Int):Tk:=⟨⟨#[]⟩,r,t.file,t.line,t.col⟩
def b9(rec:Nat->List Bool->List Tk->List Tk×List Bool)(fs:Fs):List Tk->List Bool->List Tk->List Tk×List Bool
 | [],sn,out=>(out,sn)
 | t :: r,sn,out =>
  if((t.rule==0)&&(t.s.toList == []))=true then((if cZ out=true then out else out++[oN t 7]),sn)
  else if(t.s.toList == [36,91])=false then b9 rec fs r sn (out++[t])
  else if cZ out=false then(out++[oN t 4],sn)
  else match r with
   | a :: b :: r' =>
    if(cM fs a.s a.rule==0)=false then(out++[oN a (cM fs a.s a.rule)],sn)
    else if(di b.s b.rule==0)=false then(out++[oN b (di b.s b.rule)],sn)
    else if sn.getD (bt fs a.s).toNat true=true then b9 rec fs r' sn out
    else if dI (rec (bt fs a.s).toNat sn out).1=true then rec (bt fs a.s).toNat sn out
    else b9 rec fs r' (rec (bt fs a.s).toNat sn out).2 (rec (bt fs a.s).toNat sn out).1
   | [a]=>(out++[oN a (cM fs a.s a.rule)],sn)
   | []=>(out,sn)
def dx(fs:Fs):Nat->Nat->List Bool->List Tk->List Tk×List Bool
 | 0,_,sn,out=>(out,sn)
 | n+1,k,sn,out=>b9 (dx fs n) fs (oL fs k) (sn.set k true) out
def aO(sn:List Bool):Nat:=sn.countP (fun b=>!b)
theorem jR(sn:List Bool)(k:Nat)(h:sn[k]?=some false):aO (sn.set k true)+1=aO sn:=by
 unfold aO
 induction sn generalizing k with
 | nil=>cases h
 | cons b r ih =>
  cases k with
  | zero =>
   simp at h;subst h;simp
  | succ k =>
   have:=ih k (by simpa using h);rw[List.set_cons_succ,List.countP_cons,List.countP_cons];omega
def iy(w:World)(g:Nat)(sn:List Bool):Prop:=w.heap[g]?=some (.cells (sn.map Value.bool).toArray 4 (0,0))
theorem iy.cell{w:World}{g:Nat}{sn:List Bool}(h:iy w g sn)(k:Nat)(b:Bool)(hb:sn[k]?=some b):w.cell? ⟨g,k,none⟩=some (.bool b):=by
 rw[aa h];simp[hb]
theorem iy.kept{w w':World}{g:Nat}{sn:List Bool}{S:List Nat}(h:iy w g sn)(k:ab S w w')(hg:g∉S):iy w' g sn:=k.get h hg
theorem iy.set{w:World}{g:Nat}{sn:List Bool}(h:iy w g sn)(k:Nat):iy (w.setCell ⟨g,k,none⟩ (.bool true)) g (sn.set k true):=by
 unfold iy;rw[ah h];simp[List.map_set]
theorem Az(sn:List Bool)(k:Nat)(h:sn[k]?=some false):0<aO sn:=by
 have:=jR sn k h;omega
structure qA(w w':World)(gs:Nat)(h h':Hd):Prop where
 kept:ab (gs :: h.blk.toList) w w'
 blk:h'.blk=h.blk∨∃g,h'.blk=some g/\w.heap.size<=g
theorem qA.refl(w:World)(gs:Nat)(h:Hd):qA w w gs h h:=⟨ab.refl _ _,Or.inl rfl⟩
theorem qA.of{w w':World}{gs:Nat}{h h':Hd}(g:bh w w' h h'):qA w w' gs h h':=⟨g.kept.mono (fun _ hx _=>List.mem_cons_of_mem _ hx),g.blk⟩
theorem qA.trans{w w1 w2:World}{gs:Nat}{h h1 h2:Hd}(a:qA w w1 gs h h1)(b:qA w1 w2 gs h1 h2):qA w w2 gs h h2:=by
 refine⟨⟨b.kept.os.trans a.kept.os,b.kept.tape.trans a.kept.tape,b.kept.output.trans a.kept.output,Nat.le_trans a.kept.size b.kept.size,fun k hk hn=>?_⟩,?_⟩
 ·rw[b.kept.block k (Nat.lt_of_lt_of_le hk a.kept.size) (fun hq=>?_),a.kept.block k hk hn]
  rcases List.mem_cons.1 hq with e | hq
  ·exact hn (by rw[e];simp)
  ·have e:=aK hq
   rcases a.blk with e2 | ⟨g,e2,hg⟩
   ·exact hn (List.mem_cons_of_mem _ (by rw[<-e2,e];simp))
   ·rw[e2]at e;cases e;omega
 ·rcases b.blk with e | ⟨g,e,hg⟩
  ·rcases a.blk with e2 | ⟨g,e2,hg⟩
   ·exact Or.inl (e.trans e2)
   ·exact Or.inr ⟨g,e.trans e2,hg⟩
  ·exact Or.inr ⟨g,e,Nat.le_trans a.kept.size hg⟩
structure pt(w:World)(gf cap:Nat)(fs:Fs)(gs:Nat)(sn:List Bool)(h:Hd)(O:List Tk):Prop where
 own:aA w h (ge O)
 seen:iy w gs sn
 src:lR w (some ⟨gf,0,none⟩) cap fs
 a1:h.blk≠some gs
 a2:h.blk≠some gf
 a3:gf≠gs
 lt:gf<w.heap.size
theorem lR.kept{w w':World}{gf cap:Nat}{fs:Fs}{S:List Nat}(h:lR w (some ⟨gf,0,none⟩) cap fs)(k:ab S w w')(hg:gf∉S):lR w' (some ⟨gf,0,none⟩) cap fs:=by
 refine⟨h.1,fun j hj=>?_⟩;obtain⟨g,e,hl,c0,c1⟩:=h.2 j hj;have e2:g=gf:=by cases e;rfl
 subst e2;have q:∀o,w'.cell? ⟨g,o,none⟩=w.cell? ⟨g,o,none⟩:=fun o=>World.cell?_of_block (k.block g hl hg)
 exact⟨g,rfl,Nat.lt_of_lt_of_le hl k.size,by rw[q];exact c0,by rw[q];exact c1⟩
section
variable {w w':World} {gf cap:Nat} {fs:Fs} {gs:Nat} {sn sn':List Bool} {h h':Hd} {O O':List Tk}
theorem pt.still(a:pt w gf cap fs gs sn h O)(k:ab [] w w'):pt w' gf cap fs gs sn h O :=
 ⟨a.own.still k,a.seen.kept k (by simp),a.src.kept k (by simp),a.a1,a.a2,a.a3,Nat.lt_of_lt_of_le a.lt k.size⟩
theorem pt.far(a:pt w gf cap fs gs sn h O)(r:qA w w' gs h h'):h'.blk≠some gs/\h'.blk≠some gf:=by
 have l1:=ae a.seen;have l2:=a.lt
 rcases r.blk with e | ⟨g,e,hg⟩
 ·rw[e];exact⟨a.a1,a.a2⟩
 ·rw[e];exact⟨fun q=>by cases q;omega,fun q=>by cases q;omega⟩
theorem pt.turn(a:pt w gf cap fs gs sn h O)(r:qA w w' gs h h')(o:aA w' h' (ge O'))(s:iy w' gs sn'):pt w' gf cap fs gs sn' h' O':=by
 obtain⟨f1,f2⟩:=a.far r;refine⟨o,s,a.src.kept r.kept (fun hq=>?_),f1,f2,a.a3,Nat.lt_of_lt_of_le a.lt r.kept.size⟩
 rcases List.mem_cons.1 hq with e | hq
 ·exact a.a3 e
 ·exact a.a2 (aK hq)
theorem pt.grew(a:pt w gf cap fs gs sn h O)(g:bh w w' h h')(o:aA w' h' (ge O')):pt w' gf cap fs gs sn h' O' :=
 a.turn (qA.of g) o (a.seen.kept g.kept (fun hq=>a.a1 (aK hq)))
end
theorem Em(d:ByteArray)(a z:Nat):(d.extract a z).size<=d.size:=by rw[ByteArray.size_extract];omega
theorem uu(nm d:ByteArray)(a z:Nat)(L:List Tk)(h:∀t∈L,t.s.size<=d.size):∀t∈g7 nm d a z L,t.s.size<=d.size:=by
 intro t ht;unfold g7 at ht
 split at ht
 ·exact h t ht
 ·rcases List.mem_append.1 ht with ht | ht
  ·exact h t ht
  ·rw[List.mem_singleton.1 ht];exact Em d a z
theorem wA(nm d:ByteArray)(i:Nat):∀t∈h9 nm d i,t.s.size<=d.size:=by
 induction i with
 | zero=>intro t ht;cases ht
 | succ i ih =>
  rw[h9]
  split
  ·exact uu nm d _ _ _ ih
  ·exact ih
theorem sV(nm d:ByteArray):∀t∈fR nm d,t.s.size<=d.size:=by
 intro t ht;unfold fR at ht
 split at ht
 ·rcases List.mem_append.1 ht with ht | ht
  ·exact wA nm d _ t ht
  ·rw[List.mem_singleton.1 ht];exact Nat.zero_le _
 ·rcases List.mem_append.1 ht with ht | ht
  ·exact uu nm d _ _ _ (wA nm d _) t ht
  ·rw[List.mem_singleton.1 ht];exact Nat.zero_le _
theorem Ei(m:Nat)(b:Bool)(L:List Tk)(h:∀t∈L,t.s.size<=m):∀t∈bJ b L,t.s.size<=m:=by
 induction L generalizing b with
 | nil=>intro t ht;cases b <;> simp[bJ]at ht
 | cons a r ih =>
  have h1:=fun b=>ih b (fun t ht=>h t (List.mem_cons_of_mem _ ht))
  have h0:=h a (by simp);intro t ht
  cases b
  ·rw[bJ]at ht
   split at ht
   ·exact h1 _ t ht
   ·rcases List.mem_cons.1 ht with e | ht
    ·rw[e];exact h0
    ·exact h1 _ t ht
  ·rw[bJ]at ht
   split at ht
   ·rcases List.mem_cons.1 ht with e | ht
    ·rw[e];exact h0
    ·exact h1 _ t ht
   ·split at ht
    ·exact h1 _ t ht
    ·split at ht
     ·rcases List.mem_cons.1 ht with e | ht
      ·rw[e];exact Nat.zero_le _
      ·exact h1 _ t ht
     ·split at ht
      ·rw[List.mem_singleton.1 ht];exact Nat.zero_le _
      ·exact h1 _ t ht
theorem Eg(fs:Fs)(k:Nat):∀t∈oL fs k,t.s.size<=(aj fs k).size:=Ei _ _ _ (sV _ _)
end Go.Proofs.YtpddjjabfbfifaaGreat

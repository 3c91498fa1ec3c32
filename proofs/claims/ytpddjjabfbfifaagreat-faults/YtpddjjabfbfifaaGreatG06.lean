import Derived.BigQuiet
import Derived.Deep.RegionHeld3
import Derived.Test.YtpddjjabfbfifaaGreatG05
namespace Go.Proofs.YtpddjjabfbfifaaGreat
open Go.RowKit
set_option maxHeartbeats 40000000
def oJ(N:Nat)(s:St):St:=if s.til=0/\CH s.kind=false then { s with til:=N } else s
def eK(l:List St)(b n:Nat):List St:=l.mapIdx (fun i s=>if b<=i/\i<n then oJ l.length s else s)
def jo(l:List St)(b:Nat):List St:=eK l b l.length
theorem ja(l:List St)(b n:Nat):(eK l b n).length=l.length:=by simp[eK]
theorem lZ(l:List St)(b n i:Nat):(eK l b n)[i]?=l[i]?.map (fun s=>if b<=i/\i<n then oJ l.length s else s):=by simp[eK]
theorem yx(l:List St)(b:Nat):eK l b b=l:=by
 apply List.ext_getElem?
 intro i;rw[lZ];have:¬(b<=i/\i<b):=by omega
 simp[this]
theorem tE(l:List St)(b n:Nat)(hb:b<=n)(hn:n<l.length):eK l b (n+1)=(eK l b n).set n (oJ l.length l[n]):=by
 apply List.ext_getElem?
 intro i;rw[List.getElem?_set,lZ,lZ,ja]
 by_cases e:n=i
 ·subst e
  have h1:b<=n/\n<n+1:=⟨hb,by omega⟩;simp[hn,h1]
 ·have:(b<=i/\i<n+1) ↔ (b<=i/\i<n):=by omega
  simp[e,this]
theorem Ay(l:List St)(b n:Nat)(hb:b<=n)(hn:n<l.length)(h:oJ l.length l[n]=l[n]):eK l b (n+1)=eK l b n:=by
 rw[tE l b n hb hn,h]
 apply List.ext_getElem?
 intro i;rw[List.getElem?_set,ja]
 by_cases e:n=i
 ·subst e
  rw[lZ];simp[hn]
 ·simp[e]
theorem Ge(l:List St)(b n:Nat)(hn:n<l.length):(eK l b n)[n]?=some l[n]:=by
 rw[lZ];simp[hn]
theorem uI(l:List St)(n:Nat)(hn:n<l.length)(N:Nat)(i:Nat):fR (l.set n { l[n] with til:=N }) i=fR l i/\qi (l.set n { l[n] with til:=N }) i=qi l i:=by
 unfold fR qi;rw[List.getElem?_set]
 by_cases e:n=i
 ·subst e;simp[hn]
 ·simp[e]
theorem aN.til{w:World}{b t:Nat}{pre post:List Value}{d:Db}{H:Nat->Hd}(h:aN w b t pre post d H)(g:Nat)(hg:(H 6).ao=some ⟨g,0,none⟩)(n:Nat)(hn:n<d.sts.length)(N:Nat) :
  aN (w.setCell ⟨g,n*8+7,none⟩ (.int .i64 N)) b t pre post { d with sts:=d.sts.set n { d.sts[n] with til:=N } } H/\aw b w H (w.setCell ⟨g,n*8+7,none⟩ (.int .i64 N)) H:=by
 have hb6:(H 6).blk=some g:=by unfold Hd.blk;rw[hg];rfl
 have hgb:g≠b:=by rintro rfl;exact h.off 6 hb6
 refine⟨⟨?_,?_,h.apart,h.off⟩,(dQ.refl _ _).setCell (Or.inl (Or.inr ⟨6,hb6⟩)) _,fun _ hk=>Or.inl hk⟩
 ·rw[Below.heap_setCell _ _ _ _ (fun e=>hgb e.symm),h.blk]
  simp[bU]
 ·intro i
  by_cases e:i=6
  ·subst e
   have o6:aA w (H 6) (gB d.sts H):=h.own 6
   show aA _ (H 6) (gB (d.sts.set n { d.sts[n] with til:=N }) H)
   rcases o6.ways with ⟨e0,h0,_⟩ | ⟨g',cur,e1,e2,e3,e4,e5,e6⟩
   ·have:d.sts.length=0:=h0
    omega
   ·have:g'=g:=by rw[hg]at e1;injection e1 with e1;injection e1 with e1;exact e1.symm
    subst this;refine⟨by simp only[gB];rw[Ib],Or.inr ⟨g',(H 6).cap,cur.setIfInBounds (n*8+7) (.int .i64 N),?_,Nat.zero_le _,ah e2 _ _,?_,e4,?_,?_⟩⟩
    ·simp[gB,hg]
    ·simpa [gB] using e3
    ·simpa [gB] using e5
    ·have e6':cur.toList.take (d.sts.length*8)=kR d.sts H:=e6
     simp only[gB,List.length_set,Array.toList_setIfInBounds,List.take_set,e6'];exact Ic d.sts H n hn N
  ·have hr:aP { d with sts:=d.sts.set n { d.sts[n] with til:=N } } H i=aP d H i:=by
    match i,e with
    | 0,_=>rfl
    | 1,_=>rfl
    | 2,_=>rfl
    | 3,_=>rfl
    | 4,_=>rfl
    | 5,_=>rfl
    | 6,e=>exact absurd rfl e
    | 7,_=>rfl
    | 8,_=>rfl
    | 9,_=>rfl
    | m+10,_=>simp only[aP,inner,(uI d.sts n hn N (m / 2)).1,(uI d.sts n hn N (m / 2)).2]
   rw[hr];refine(h.own i).moved (fun k hk=>Below.heap_setCell _ _ _ _ ?_);rintro rfl
   rcases h.apart i 6 e with a | a
   ·rw[a]at hk;cases hk
   ·exact a (hk.trans hb6.symm)
theorem aN.stmt{w:World}{b t:Nat}{pre post:List Value}{d:Db}{H:Nat->Hd}(h:aN w b t pre post d H)(g:Nat)(hg:(H 6).ao=some ⟨g,0,none⟩)(n:Nat)(s:St)(hs:d.sts[n]?=some s) :
  w.cell? ⟨g,n*8,none⟩=some (.int .i64 s.kind)/\w.cell? ⟨g,n*8+1,none⟩=some (.string s.label)/\w.cell? ⟨g,n*8+2,none⟩=some (.slice (H (10+2*n)).ao s.symbols.length (H (10+2*n)).cap) /\
  w.cell? ⟨g,n*8+3,none⟩=some (.slice (H (11+2*n)).ao s.proof.length (H (11+2*n)).cap)/\w.cell? ⟨g,n*8+4,none⟩=some (.string s.fin.file)/\w.cell? ⟨g,n*8+5,none⟩=some (.int .i64 s.fin.line) /\
  w.cell? ⟨g,n*8+6,none⟩=some (.int .i64 s.fin.col)/\w.cell? ⟨g,n*8+7,none⟩=some (.int .i64 s.til):=by
 obtain⟨hn,rfl⟩:=List.getElem?_eq_some_iff.1 hs;have o6:aA w (H 6) (gB d.sts H):=h.own 6;have c:=fun j (hj:j<8) v (hv:(E1 d.sts[n] (H (10+2*n)) (H (11+2*n)))[j]?=some v)=>o6.cell hg (n*8+j) v ((C3 d.sts H n hn j hj).trans hv)
 exact⟨c 0 (by omega) _ rfl,c 1 (by omega) _ rfl,c 2 (by omega) _ rfl,c 3 (by omega) _ rfl,c 4 (by omega) _ rfl,c 5 (by omega) _ rfl,c 6 (by omega) _ rfl,c 7 (by omega) _ rfl⟩
theorem zh(l:List Nat):(iW l).length=l.length*1:=by simp[iW]
theorem aA.popN{w:World}{h:Hd}{l:List Nat}{x:Nat}(o:aA w h (bq (l++[x]))):aA w h (bq l):=by
 rcases o.ways with ⟨e0,h0,_⟩ | ⟨g,cur,e1,e2,e3,e4,e5,e6⟩
 ·have h0':(l++[x]).length=0:=h0
  simp at h0'
 ·obtain⟨ao,cap⟩:=h
  simp only at e1 e3 e4 e5;subst e1;have e3':(l++[x]).length<=cap:=e3;simp at e3';refine⟨by simp only[bq];exact zh l,Or.inr ⟨g,cap,cur,rfl,Nat.zero_le _,e2,?_,e4,e5,?_⟩⟩
  ·simp only[bq];omega
  ·have e6':cur.toList.take ((l++[x]).length*1)=iW (l++[x]):=e6
   simp only[bq];have e7:iW l=(iW (l++[x])).take (l.length*1):=by rw[vZ,List.take_left' (zh l)]
   rw[e7,<-e6',List.take_take]
   congr 1
   simp
set_option maxRecDepth 100000 in
theorem Bp(b t o:Nat)(pre post:List Value)(d:Db)(H:Nat->Hd)(bl:List Nat)(x:Nat)(w:World)(h:aN w b t pre post d H)(ho:pre.length=o)(hbl:d.rbl=bl++[x])(hs:eR d 100000000)(hx:x<=d.sts.length) :
  Calls Tryz.prog 249 #[.pointer (some ⟨b,o+6,none⟩)] w fun e w'=>e=.returned (.tuple #[])/\aN w' b t pre post { d with rbl:=bl,sts:=jo d.sts x } H/\aw b w H w' H:=by
 obtain⟨q0,q1,q2,q3,q4,q5,q6,q7,q8,q9,q10,q11,q12⟩:=h.cells o ho;clear q0 q1 q2 q3 q4 q5 q8 q9 q10 q11 q12;have hfr:=h.free;have hbw:=h.lt;have hw7:aA w (H 7) (bq (bl++[x])):=by have:=h.own 7;simp only[aP,hbl]at this;exact this
 have hlen:=hs.rbl;have hlen6:=hs.sts;rw[hbl]at hlen q7;simp only[List.length_append,List.length_cons,List.length_nil]at hlen q7
 rcases hw7.ways with ⟨e0,h0,_⟩ | ⟨g,cur,e1,e2,e3,e4,e5,e6⟩
 ·have h0':(bl++[x]).length=0:=h0
  simp at h0'
 ·have p1:=hw7.cell e1 bl.length (.int .i64 x) (by simp[bq,iW])
  have hcap:bl.length+1<=(H 7).cap:=by have:(bl++[x]).length<=(H 7).cap:=e3;simpa using this
  have hcap2:(H 7).cap<=9223372036854775807:=by unfold maxLen at e4;exact e4
  have P1:=n8 7 7 (d':={ d with rbl:=bl }) h ho (by omega) hw7.popN (zz d H bl) (.slice (some ⟨g,0,none⟩) bl.length (H 7).cap) (by omega) (by simp[bU,fM,e1]);rw[e1]at q7;have HP:=(show Hid _ from P1);clear hw7 e3 e4 e5 e6 e2 h P1;go_enter Tryz.func249,Tryz.ntmps249;go_wp2
  go_loopg [4] (d.sts.length-x) (fun g i wr=>∃k:Nat,x<=k/\k<=d.sts.length/\g=d.sts.length-k/\i=.int .i64 k/\aN wr b t pre post { d with rbl:=bl,sts:=eK d.sts x k } H/\aw b w H wr H)
  case atStart=>exact⟨x,by omega,hx,rfl,rfl,by rw[yx];exact HP.out.1,HP.out.2⟩
  case round =>
   obtain⟨k,hk1,hk2,hg,rfl,D,T⟩:=hrel;clear HP q6 q7 p1 hfr;obtain⟨q0,q1,q2,q3,q4,q5,q6,q7,q8,q9,q10,q11,q12⟩:=D.cells o ho;clear q0 q1 q2 q3 q4 q5 q7 q8 q9 q10 q11 q12;have hfr:=D.free;simp only[ja]at q6
   by_cases hlt:k<d.sts.length
   ·have hat:=Ge d.sts x k hlt
    have hw6:aA wr (H 6) (gB (eK d.sts x k) H):=D.own 6
    rcases hw6.ways with ⟨_,h0,_⟩ | ⟨g6,cur6,e6,e62,e63,-⟩
    ·have:(eK d.sts x k).length=0:=h0
     rw[ja]at this;omega
    ·obtain⟨c0,c1,c2,c3,c4,c5,c6,c7⟩:=D.stmt g6 e6 k _ hat
     rw[e6]at q6;have hfg:=ak e62
     have HS:Hid (∀N:Nat,aN wr b t pre post { d with rbl:=bl,sts:=eK d.sts x k } H->∀w1,ab [] wr w1->aN (w1.setCell ⟨g6,k*8+7,none⟩ (.int .i64 N)) b t pre post { d with rbl:=bl,sts:=(eK d.sts x k).set k { d.sts[k] with til:=N } } H/\aw b w H (w1.setCell ⟨g6,k*8+7,none⟩ (.int .i64 N)) H):=by
      intro N D w1 hk1;have D1:=D.still hk1;have hn:k<(eK d.sts x k).length:=by rw[ja];exact hlt
      have P:=D1.til g6 e6 k hn N;have es:(eK d.sts x k)[k]=d.sts[k]:=by have:=hat;rw[List.getElem?_eq_getElem hn]at this;simpa using this
      simp only[es]at P;exact⟨P.1,(T.still hk1).trans P.2⟩
     have H1:Hid (oJ d.sts.length d.sts[k]=d.sts[k]->eK d.sts x (k+1)=eK d.sts x k):=Ay d.sts x k hk1 hlt;have H2:Hid (eK d.sts x (k+1)=(eK d.sts x k).set k (oJ d.sts.length d.sts[k])):=tE d.sts x k hk1 hlt;have hgw:=ae e62;have hcg:=e62;have hat2:=(show Hid _ from hat);have hcap6:d.sts.length<=(H 6).cap:=by have:(eK d.sts x k).length<=(H 6).cap:=e63;rw[ja]at this;exact this
     clear hat hw6 e62 e63;generalize d.sts[k]=s at *
     cases hz:((s.til:Int)==0)
     ·have HT:Hid (eK d.sts x (k+1)=eK d.sts x k):=H1.out (by
       have:¬s.til=0:=by intro e;simp[e]at hz
       simp[oJ,this])
      clear HS H1 H2 hfg;go_wp2
      go_roundg (d.sts.length-(k+1))
      case measure=>omega
      case rel=>exact⟨k+1,by omega,by omega,rfl,by go_num,by rw[HT.out];exact D,T⟩
     ·have hz':s.til=0:=by have:=eq_of_beq hz;omega
      cases ha:CH s.kind
      ·have HT:Hid (eK d.sts x (k+1)=(eK d.sts x k).set k { s with til:=d.sts.length }):=by
        show _=_;rw[H2.out];simp[oJ,hz',ha]
       clear H1 H2 hz';go_wp2_with (go_at_call 160;refine(dr s.kind _ _ _ _ _ _ _ _).mono ?_;rintro e w1 ⟨rfl,hk3⟩;have hG6:=hk3.get hcg (by simp));have D1:=D.still hk3;have PS:=(show Hid _ from fun N=>HS.out N D _ hk3);obtain⟨q0,q1,q2,q3,q4,q5,q6,q7,q8,q9,q10,q11,q12⟩:=D1.cells o ho;clear q0 q1 q2 q3 q4 q5 q7 q8 q9 q10 q11 q12;simp only[ja,e6]at q6;obtain⟨c0,c1,c2,c3,c4,c5,c6,c7⟩:=D1.stmt g6 e6 k _ hat2.out;clear c0 c1 c2 c3 c4 c5 c6;have hfg:=ak hG6;have hfr:=D1.free
       go_region
       all_goals go_wp2
       all_goals
        go_roundg (d.sts.length-(k+1))
        case measure=>omega
        case rel=>exact⟨k+1,by omega,by omega,rfl,by go_num,by rw[HT.out];exact(PS.out _).1.still (ab.refl [] _).drew,(PS.out _).2.still (ab.refl [] _).drew⟩
      ·have HT:Hid (eK d.sts x (k+1)=eK d.sts x k):=H1.out (by simp[oJ,ha])
       clear HS H1 H2 hfg hz';go_wp2_with (go_at_call 160;refine(dr s.kind _ _ _ _ _ _ _ _).mono ?_;rintro e w1 ⟨rfl,hk3⟩)
       go_roundg (d.sts.length-(k+1))
       case measure=>omega
       case rel=>exact⟨k+1,by omega,by omega,rfl,by go_num,by rw[HT.out];exact D.still hk3,T.still hk3⟩
   ·have e:k=d.sts.length:=by omega
    subst e;go_wp2;go_end0;exact⟨rfl,D,T⟩
theorem Lp:(Tryz.prog.info? 158).map (fun i=>(i.zero,i.size,i.bytes))=some (some (.agg #[.int .i64 0,.string ⟨#[]⟩,.slice none 0 0,.slice none 0 0,.string ⟨#[]⟩,.int .i64 0,.int .i64 0,.int .i64 0]),8,112):=by kernel_rfl
theorem J7:(Tryz.prog.info? 229).map (fun i=>(i.zero,i.size,i.bytes))=some (some (.agg #[.string ⟨#[]⟩,.string ⟨#[]⟩,.int .i64 0,.int .i64 0]),4,48):=by kernel_rfl
theorem rV(l:List St)(H H':Nat->Hd)(h:∀j,j<10+2*l.length->H' j=H j):kR l H'=kR l H:=by
 unfold kR;rw[List.flatMap_def,List.flatMap_def]
 congr 1
 apply List.map_congr_left
 intro p hp
 have:p.2<l.length:=by
  have:=List.snd_lt_add_of_mem_zipIdx hp;omega
 rw[h _ (by omega),h _ (by omega)]
theorem G7(w:World)(h:Hd)(l:List ByteArray)(o:aA w h (aD l)):aA w h (aD []):=by
 have:=o.taken 0;simpa using this
theorem G8(w:World)(h:Hd)(l:List (ByteArray×Pl))(o:aA w h (fE l)):aA w h (fE []):=by
 rcases o.ways with ⟨e0,h0,_⟩ | ⟨g,cur,e1,e2,e3,e4,e5,e6⟩
 ·subst e0
  exact⟨by simp[fE,lU],Or.inl ⟨by simp[fE],by simp[fE]⟩⟩
 ·obtain⟨ao,cap⟩:=h
  simp only at e1 e3 e4 e5;subst e1;exact⟨by simp[fE,lU],Or.inr ⟨g,cap,cur,rfl,Nat.zero_le _,e2,by simp[fE],e4,e5,by simp[fE,lU]⟩⟩
theorem aN.addst{w0 w w1:World}{b t o:Nat}{pre post:List Value}{d:Db}{H:Nat->Hd}(h0:aN w0 b t pre post d H)(hk0:ab [] w0 w)(ho:pre.length=o)(s:St)(hs hp:Hd)(gs gp:Nat)
  (hsb:hs.blk=some gs) (hpb:hp.blk=some gp) (hs0:w0.heap.size<=gs) (hp0:w0.heap.size<=gp) (hne:gs≠gp) (os:aA w hs (aD s.symbols)) (op:aA w hp (fE s.proof))
  (g cap':Nat) (hw1:aA w1 ⟨some ⟨g,0,none⟩,cap'⟩ ⟨(gB d.sts H).e,(gB d.sts H).size,(gB d.sts H).n+1,(gB d.sts H).xs++E1 s hs hp⟩) (hgr:w.grownBy w1 (H 6).blk) (hfresh:(H 6).blk=some g∨w.heap.size<=g) :
  w1.cell? ⟨b,o+6,none⟩=some (.slice (H 6).ao d.sts.length (H 6).cap)/\w1.frozen? ⟨b,o+6,none⟩=false /\
  Hid (∃H',aN (w1.setCell ⟨b,o+6,none⟩ (.slice (some ⟨g,0,none⟩) ((gB d.sts H).n+1) cap')) b t pre post { d with sts:=d.sts++[s] } H' /\
   aw b w0 H (w1.setCell ⟨b,o+6,none⟩ (.slice (some ⟨g,0,none⟩) ((gB d.sts H).n+1) cap')) H'/\∀j,j<10->j≠6->H' j=H j):=by
 have h:=h0.still hk0;have hk:=(hgr.block b h.lt (fun e=>h.off 6 e.symm)).trans h.blk;refine⟨(aa hk (o+6)).trans (xq pre (bU d H) post o 6 ho (by simp[bU])),ak hk _,?_⟩;have hlt:=fun {k} (hk:fm H k)=>h0.inlt hk
 have hbl:=h0.lt;obtain⟨H1,hH1⟩:∃H1,H1=fM (fM H (10+2*d.sts.length) hs) (11+2*d.sts.length) hp:=⟨_,rfl⟩
 have e1:∀j,j≠10+2*d.sts.length->j≠11+2*d.sts.length->H1 j=H j:=fun j a c=>by rw[hH1,bL _ _ _ _ c,bL _ _ _ _ a]
 have e2:H1 (10+2*d.sts.length)=hs:=by rw[hH1,bL _ _ _ _ (by omega),cK]
 have e3:H1 (11+2*d.sts.length)=hp:=by rw[hH1,cK]
 have e4:kR d.sts H1=kR d.sts H:=rV _ _ _ (fun j hj=>e1 j (by omega) (by omega));clear hH1
 have el:bU d H1=bU d H:=by
  unfold bU;rw[e1 0 (by omega) (by omega),e1 1 (by omega) (by omega),e1 2 (by omega) (by omega),e1 3 (by omega) (by omega),e1 4 (by omega) (by omega),e1 5 (by omega) (by omega),e1 6 (by omega) (by omega),e1 7 (by omega) (by omega),e1 8 (by omega) (by omega),e1 9 (by omega) (by omega)]
 have er:∀j,aP d H1 j=aP d H j:=by
  intro j;unfold aP
  split <;> first | rfl | (simp only[gB,e4])
 have bk:∀j,(H1 j).blk=(H j).blk∨((H1 j).blk=some gs/\j=10+2*d.sts.length)∨((H1 j).blk=some gp/\j=11+2*d.sts.length):=by
  intro j
  by_cases a:j=10+2*d.sts.length
  ·subst a;rw[e2];exact Or.inr (Or.inl ⟨hsb,rfl⟩)
  ·by_cases c:j=11+2*d.sts.length
   ·subst c;rw[e3];exact Or.inr (Or.inr ⟨hpb,rfl⟩)
   ·rw[e1 j a c];exact Or.inl rfl
 have D1:aN w b t pre post d H1:=by
  refine⟨by rw[el];exact h.blk,?_,?_,?_⟩
  ·intro j
   rw[er j]
   by_cases a:j=10+2*d.sts.length
   ·subst a
    rw[e2]
    have:aP d H (10+2*d.sts.length)=aD []:=by
     rw[show 10+2*d.sts.length=2*d.sts.length+10 by omega];simp[aP,inner,fR]
    rw[this];exact G7 w hs _ os
   ·by_cases c:j=11+2*d.sts.length
    ·subst c
     rw[e3]
     have:aP d H (11+2*d.sts.length)=fE []:=by
      rw[show 11+2*d.sts.length=(2*d.sts.length+1)+10 by omega];have q:(2*d.sts.length+1) % 2=1:=by omega
      have q2:(2*d.sts.length+1) / 2=d.sts.length:=by omega
      simp[aP,inner,qi,q,q2]
     rw[this];exact G8 w hp _ op
    ·rw[e1 j a c];exact h.own j
  ·intro i j hij
   have f:∀i k,(H i).blk=some k->k<w0.heap.size:=fun i k e=>hlt ⟨i,e⟩
   rcases bk i with a | ⟨a,ai⟩ | ⟨a,ai⟩ <;> rcases bk j with c | ⟨c,cj⟩ | ⟨c,cj⟩ <;> rw[a,c]
   ·exact h.apart i j hij
   ·cases e:(H i).blk with
    | none=>exact Or.inl rfl
    | some k=>right;intro ek;cases ek;have:=f i _ e;omega
   ·cases e:(H i).blk with
    | none=>exact Or.inl rfl
    | some k=>right;intro ek;cases ek;have:=f i _ e;omega
   ·right;intro ek;have:=f j _ ek.symm;omega
   ·omega
   ·right;intro ek;cases ek;exact hne rfl
   ·right;intro ek;have:=f j _ ek.symm;omega
   ·right;intro ek;cases ek;exact hne rfl
   ·omega
  ·intro j
   rcases bk j with a | ⟨a,_⟩ | ⟨a,_⟩ <;> rw[a]
   ·exact h.off j
   ·intro e;cases e;omega
   ·intro e;cases e;omega
 have T1:aw b w0 H w H1:=by
  refine⟨hk0.toP (by simp),?_⟩;rintro k ⟨j,hj⟩
  rcases bk j with a | ⟨a,_⟩ | ⟨a,_⟩ <;> rw[a]at hj
  ·exact Or.inl ⟨j,hj⟩
  ·cases hj;exact Or.inr hs0
  ·cases hj;exact Or.inr hp0
 have h6:H1 6=H 6:=e1 6 (by omega) (by omega)
 have er6:aP { d with sts:=d.sts++[s] } H1 6=⟨(gB d.sts H).e,(gB d.sts H).size,(gB d.sts H).n+1,(gB d.sts H).xs++E1 s hs hp⟩:=by
  simp only[aP,gB,Fb,e2,e3,e4,List.length_append,List.length_cons,List.length_nil]
 have P:=D1.putG (d':={ d with sts:=d.sts++[s] }) o 6 ho 6 (by omega) ⟨some ⟨g,0,none⟩,cap'⟩ (by rw[er6];exact hw1) (by rw[h6];exact hgr)
  (by
    rcases hfresh with e | e
    ·exact Or.inr (Or.inl (by rw[h6];exact e.symm))
    ·exact Or.inr (Or.inr ⟨g,rfl,e⟩))
  (by
   intro j hj
   by_cases a:j=10+2*d.sts.length
   ·subst a
    rw[e2]
    have:aP { d with sts:=d.sts++[s] } H1 (10+2*d.sts.length)=aD s.symbols:=by
     rw[show 10+2*d.sts.length=2*d.sts.length+10 by omega];simp[aP,inner,fR]
    rw[this];exact os
   ·by_cases c:j=11+2*d.sts.length
    ·subst c
     rw[e3]
     have:aP { d with sts:=d.sts++[s] } H1 (11+2*d.sts.length)=fE s.proof:=by
      rw[show 11+2*d.sts.length=(2*d.sts.length+1)+10 by omega];have q:(2*d.sts.length+1) % 2=1:=by omega
      have q2:(2*d.sts.length+1) / 2=d.sts.length:=by omega
      simp[aP,inner,qi,q,q2]
     rw[this];exact op
    ·have:aP { d with sts:=d.sts++[s] } H1 j=aP d H1 j:=by
      match j,hj,a,c with
      | 0,_,_,_=>rfl
      | 1,_,_,_=>rfl
      | 2,_,_,_=>rfl
      | 3,_,_,_=>rfl
      | 4,_,_,_=>rfl
      | 5,_,_,_=>rfl
      | 6,hj,_,_=>exact absurd rfl hj
      | 7,_,_,_=>rfl
      | 8,_,_,_=>rfl
      | 9,_,_,_=>rfl
      | m+10,_,a,c =>
       have hm:m / 2≠d.sts.length:=by omega
       have e:(d.sts++[s])[m / 2]?=d.sts[m / 2]?:=by
        rcases Nat.lt_or_ge (m / 2) d.sts.length with hl | hl
        ·exact List.getElem?_append_left hl
        ·rw[List.getElem?_append_right hl,List.getElem?_eq_none hl,List.getElem?_eq_none (by simp;omega)]
       simp only[aP,inner,fR,qi,e]
     rw[this];exact D1.own j)
  (.slice (some ⟨g,0,none⟩) ((gB d.sts H).n+1) cap') (by omega) (by
   rw[el];have u:∀j,j<10->j≠6->fM H1 6 (⟨some ⟨g,0,none⟩,cap'⟩:Hd) j=H j:=fun j hj hn=>by rw[bL _ _ _ _ hn];exact e1 j (by omega) (by omega)
   unfold bU;rw[u 0 (by omega) (by omega),u 1 (by omega) (by omega),u 2 (by omega) (by omega),u 3 (by omega) (by omega),u 4 (by omega) (by omega),u 5 (by omega) (by omega),u 7 (by omega) (by omega),u 8 (by omega) (by omega),u 9 (by omega) (by omega),cK];simp[gB])
 exact⟨_,P.1,T1.trans P.2,fun j hj hn=>by rw[bL _ _ _ _ hn];exact e1 j (by omega) (by omega)⟩
theorem Ci(l:List (ByteArray×Pl)):∀u∈lU l,u.oneCell'=true:=by
 intro u hu;simp only[lU,List.mem_flatMap]at hu;obtain⟨p,_,hu⟩:=hu;simp only[oR,List.mem_cons,List.not_mem_nil,or_false]at hu
 rcases hu with rfl | rfl | rfl | rfl <;> rfl
theorem JK(s:St)(a b:Hd):∀u∈E1 s a b,u.oneCell'=true:=by
 intro u hu;simp only[E1,List.mem_cons,List.not_mem_nil,or_false]at hu
 rcases hu with rfl | rfl | rfl | rfl | rfl | rfl | rfl | rfl <;> rfl
set_option maxRecDepth 100000 in
theorem pu(b t o:Nat)(pre post:List Value)(d:Db)(H:Nat->Hd)(k:Int)(lab f:ByteArray)(l c:Int)(w:World)(h:aN w b t pre post d H)(ho:pre.length=o)(hs:eR d 100000000) :
  Calls Tryz.prog 268 #[.pointer (some ⟨b,o+6,none⟩),.agg #[.int .i64 k,.string lab,.slice (H 8).ao d.symbols.length (H 8).cap,.slice (H 9).ao d.proof.length (H 9).cap,.string f,.int .i64 l,.int .i64 c,.int .i64 0]] w fun e w' =>
   e=.returned (.tuple #[])/\∃H',aN w' b t pre post { d with sts:=d.sts++[⟨k,lab,d.symbols,d.proof,⟨f,l,c⟩,0⟩] } H'/\aw b w H w' H'/\∀j,j<10->j≠6->H' j=H j:=by
 obtain⟨i0,hi,hz0,hz1,hz2⟩:=info_parts jI;obtain⟨i1,hi1,hy0,hy1,hy2⟩:=info_parts J7;obtain⟨i2,hi2,hx0,hx1,hx2⟩:=info_parts Lp;have hl8:=hs.symbols;have hl9:=hs.proof;have hl6:=hs.sts;have m1:=fun w=>dn (P:=Tryz.prog) w 61 9 i0 _ Tryz.underlying61 hi hz0 d.symbols.length 1 hz1 (by rw[hz2];omega) (by omega)
 have m2:=fun w=>dn (P:=Tryz.prog) w 156 229 i1 _ Tryz.underlying156 hi1 hy0 d.proof.length 4 hy1 (by rw[hy2];omega) (by omega)
 obtain⟨mc1,hmc1⟩:∃mc,mc=madeCells (Value.string ⟨#[]⟩).cells (d.symbols.length*1):=⟨_,rfl⟩
 obtain⟨mc2,hmc2⟩:∃mc,mc=madeCells (Value.agg #[.string ⟨#[]⟩,.string ⟨#[]⟩,.int .i64 0,.int .i64 0]).cells (d.proof.length*4):=⟨_,rfl⟩
 have z1:mc1.size=d.symbols.length*1:=by rw[hmc1,size_madeCells]
 have z2:mc2.size=d.proof.length*4:=by rw[hmc2,size_madeCells]
 rw[<-hmc1]at m1;rw[<-hmc2]at m2;clear hmc1 hmc2;obtain⟨bx,hbx⟩:∃bx:Array Value,bx=#[.int .i64 k,.string lab,.slice (H 8).ao d.symbols.length (H 8).cap,.slice (H 9).ao d.proof.length (H 9).cap,.string f,.int .i64 l,.int .i64 c,.int .i64 0]:=⟨_,rfl⟩
 obtain⟨W2,hW2⟩:∃W2,W2=(w.alloc (.cells #[.int .i64 k,.string lab,.slice (H 8).ao d.symbols.length (H 8).cap,.slice (H 9).ao d.proof.length (H 9).cap,.string f,.int .i64 l,.int .i64 c,.int .i64 0] 158)).alloc (.cells mc1 9):=⟨_,rfl⟩
 have K2:ab [] w W2:=by rw[hW2];exact((ab.refl [] _).alloc _).alloc _
 have D2:=h.still K2;have Z2:W2.heap.size=w.heap.size+2:=by rw[hW2];simp
 have B2:W2.heap[w.heap.size]?=some (.cells bx 158 (0,0)):=by
  rw[hW2,hbx];exact((ab.refl [] _).alloc _).get (heap_alloc_new _ _) (by simp)
 have G2:W2.heap[w.heap.size+1]?=some (.cells mc1 9 (0,0)):=by
  rw[hW2];have:=heap_alloc_new (w.alloc (.cells #[.int .i64 k,.string lab,.slice (H 8).ao d.symbols.length (H 8).cap,.slice (H 9).ao d.proof.length (H 9).cap,.string f,.int .i64 l,.int .i64 c,.int .i64 0] 158)) (.cells mc1 9);simpa using this
 have HW2:=(show Hid _ from hW2.symm);have hbw:=h.lt;have Hsz1:Hid ((Tryz.prog.info? (aD d.symbols).e).map (·.size)=some (aD d.symbols).size):=by show _=_;simp[aD,hi,hz1]
 have Hsz2:Hid ((Tryz.prog.info? (fE d.proof).e).map (·.size)=some (fE d.proof).size):=by show _=_;simp[fE,hi1,hy1]
 clear hW2;go_enter Tryz.func268,Tryz.ntmps268
 go_upto_region 2 with fail
 rw[HW2.out];have b2:W2.cell? ⟨w.heap.size,2,none⟩=some (.slice (H 8).ao d.symbols.length (H 8).cap):=by rw[aa B2,hbx];rfl
 clear HW2 m1;obtain⟨w3,cp1,hg3,hk3,hz3⟩:=qL (P:=Tryz.prog) W2 61 61 3 (w.heap.size+1) d.symbols.length (H 8) (aD d.symbols) mc1 9 Tryz.underlying61 Hsz1.out G2 (D2.own 8) z1 (ku _);simp only[aD]at cp1 hg3;have K3:ab [] w w3:=((K2.mono (S':=[w.heap.size+1]) (by simp)).trans hk3).mono (by simp);have B3:=hk3.get B2 (by simp);rw[Z2]at hz3;have b3:w3.cell? ⟨w.heap.size,3,none⟩=some (.slice (H 9).ao d.proof.length (H 9).cap):=by rw[aa B3,hbx];rfl
 clear G2 B2 D2 hk3 K2;obtain⟨W4,hW4⟩:∃W4,W4=w3.alloc (.cells mc2 229):=⟨_,rfl⟩
 have K4:ab [] w W4:=by rw[hW4];exact K3.alloc _
 have k34:ab [] w3 W4:=by rw[hW4];exact(ab.refl [] _).alloc _
 have D4:=h.still K4;have B4:=k34.get B3 (by simp);have S4:=k34.get hg3 (by simp);have G4:W4.heap[w.heap.size+2]?=some (.cells mc2 229 (0,0)):=by rw[hW4,<-hz3];exact heap_alloc_new _ _
 have HW4:=(show Hid _ from hW4.symm);have Z4:W4.heap.size=w.heap.size+3:=by rw[hW4];simp[hz3]
 clear hW4 k34
 go_upto_region 4 with fail
 clear cp1 b2;rw[HW4.out];have b4:W4.cell? ⟨w.heap.size,3,none⟩=some (.slice (H 9).ao d.proof.length (H 9).cap):=by rw[aa B4,hbx];rfl
 clear HW4 m2 b3;obtain⟨w5,cp2,hg5,hk5,hz5⟩:=qL (P:=Tryz.prog) W4 156 156 3 (w.heap.size+2) d.proof.length (H 9) (fE d.proof) mc2 229 Tryz.underlying156 Hsz2.out G4 (D4.own 9) z2 (Ci _);simp only[fE]at cp2 hg5;have K5:ab [] w w5:=((K4.mono (S':=[w.heap.size+2]) (by simp)).trans hk5).mono (by simp);have B5:=hk5.get B4 (by simp);have S5:=hk5.get S4 (by simp);rw[Z4]at hz5;clear G4 B4 D4 hk5 K4 S4;have bx2:w5.cell? ⟨w.heap.size,2,none⟩=some (.slice (H 8).ao d.symbols.length (H 8).cap):=by rw[aa B5,hbx];rfl
 have bx3:w5.cell? ⟨w.heap.size,3,none⟩=some (.slice (H 9).ao d.proof.length (H 9).cap):=by rw[aa B5,hbx];rfl
 have bx7:w5.cell? ⟨w.heap.size,7,none⟩=some (.int .i64 0):=by rw[aa B5,hbx];rfl
 have fx:=ak B5;obtain⟨W8,hW8⟩:∃W8,W8=((w5.setCell ⟨w.heap.size,2,none⟩ (.slice (some ⟨w.heap.size+1,0,none⟩) d.symbols.length d.symbols.length)).setCell ⟨w.heap.size,3,none⟩ (.slice (some ⟨w.heap.size+2,0,none⟩) d.proof.length d.proof.length)).setCell ⟨w.heap.size,7,none⟩ (.int .i64 0):=⟨_,rfl⟩
 have HW8:=(show Hid _ from hW8.symm);have K8:ab [] w W8:=by rw[hW8];exact((K5.setCell (Or.inr (Nat.le_refl _)) _).setCell (Or.inr (Nat.le_refl _)) _).setCell (Or.inr (Nat.le_refl _)) _
 have k58:ab [w.heap.size] w5 W8:=by rw[hW8];exact(((ab.refl _ _).setCell (Or.inl (by simp)) _).setCell (Or.inl (by simp)) _).setCell (Or.inl (by simp)) _
 have B8:W8.heap[w.heap.size]?=some (.cells (E1 ⟨k,lab,d.symbols,d.proof,⟨f,l,c⟩,0⟩ ⟨some ⟨w.heap.size+1,0,none⟩,d.symbols.length⟩ ⟨some ⟨w.heap.size+2,0,none⟩,d.proof.length⟩).toArray 158 (0,0)):=by
  rw[hW8,ah (ah (ah B5 _ _) _ _),hbx];rfl
 have S8:=k58.get S5 (by simp);have P8:=k58.get hg5 (by simp);clear hW8 k58 S5 hg5 B5
 go_upto_region 8 with fail
 rw[HW8.out];clear HW8 cp2 bx2 bx3 bx7 fx b4 K5 hbx hg3 hz3 B3 K3;have y:=fun j v (hv:(E1 ⟨k,lab,d.symbols,d.proof,⟨f,l,c⟩,0⟩ ⟨some ⟨w.heap.size+1,0,none⟩,d.symbols.length⟩ ⟨some ⟨w.heap.size+2,0,none⟩,d.proof.length⟩)[j]?=some v)=>(aa B8 j).trans (by simpa using hv)
 have y0:=y 0 _ rfl;have y1:=y 1 _ rfl;have y2:=y 2 _ rfl;have y3:=y 3 _ rfl;have y4:=y 4 _ rfl;have y5:=y 5 _ rfl;have y6:=y 6 _ rfl;have y7:=y 7 _ rfl;simp only at y0 y1 y2 y3 y4 y5 y6 y7;clear y;have D8:=h.still K8;have q6:=D8.cellAt o ho 6 (by omega);simp only[bU,List.getElem?_cons_succ,List.getElem?_cons_zero]at q6;have hfr:=D8.free;have hb8:=D8.lt;obtain⟨news,hnews⟩:∃news:List Value,news=E1 ⟨k,lab,d.symbols,d.proof,⟨f,l,c⟩,0⟩ ⟨some ⟨w.heap.size+1,0,none⟩,d.symbols.length⟩ ⟨some ⟨w.heap.size+2,0,none⟩,d.proof.length⟩:=⟨_,rfl⟩
 obtain⟨W9,hW9⟩:∃W9,W9=(W8.alloc (.cells #[.int .i64 k,.string lab,.slice (some ⟨w.heap.size+1,0,none⟩) d.symbols.length d.symbols.length,.slice (some ⟨w.heap.size+2,0,none⟩) d.proof.length d.proof.length,.string f,.int .i64 l,.int .i64 c,.int .i64 0] 158)).drew:=⟨_,rfl⟩
 have K9:ab [] W8 W9:=by rw[hW9];exact((ab.refl [] _).alloc _).drew
 have G9:W9.heap[W8.heap.size]?=some (.cells news.toArray 158 (0,0)):=by rw[hW9,hnews];exact heap_alloc_new _ _
 have O1:aA W9 ⟨some ⟨w.heap.size+1,0,none⟩,d.symbols.length⟩ (aD d.symbols):=aA.made (r:=aD d.symbols) (K9.get S8 (by simp)) (zK _) (by simp only[aD];unfold maxLen;omega);have O2:aA W9 ⟨some ⟨w.heap.size+2,0,none⟩,d.proof.length⟩ (fE d.proof):=aA.made (r:=fE d.proof) (K9.get P8 (by simp)) (Ch _) (by simp only[fE];unfold maxLen;omega);have D9:Hid (aN W9 b t pre post d H):=D8.still K9
 have s2:Hid (∀j u,news[j]?=some u->W9.cell? ((⟨W8.heap.size,0,none⟩:Addr).add j)=some u):=by
  intro j u hj;rw[bK,aa G9];simpa using hj
 have s3:Hid (∀u∈news,u.oneCell'=true):=by rw[hnews];exact JK _ _ _
 have s4:Hid ((gB d.sts H).n+1<=maxLen):=by show _<=_;simp only[gB];unfold maxLen;omega
 have s5:Hid (((gB d.sts H).n+1)*112<=140737488355328):=by show _<=_;simp only[gB];omega
 have AF:=fun(g cap':Nat) (w1:World) (hw1:aA w1 ⟨some ⟨g,0,none⟩,cap'⟩ ⟨(gB d.sts H).e,(gB d.sts H).size,(gB d.sts H).n+1,(gB d.sts H).xs++news⟩) hgr hfresh=>h.addst (K8.trans K9) ho ⟨k,lab,d.symbols,d.proof,⟨f,l,c⟩,0⟩ ⟨some ⟨w.heap.size+1,0,none⟩,d.symbols.length⟩ ⟨some ⟨w.heap.size+2,0,none⟩,d.proof.length⟩ (w.heap.size+1) (w.heap.size+2) rfl rfl (by omega) (by omega) (by omega) O1 O2 g cap' (w1:=w1) (by rw[<-hnews];exact hw1) hgr hfresh
 have HAF:=(show Hid _ from AF);have hlen:Hid (news.length=1*(gB d.sts H).size):=by show _=_;rw[hnews];rfl
 rw[hW9]at D9 s2 HAF;clear AF O1 O2 G9 K9 hW9 W9 hnews P8 S8 B8
 go_region_law (refine ce rfl (.tmp 31) (.tmp 33) 74 rfl i2 (.agg #[.int .i64 0,.string ⟨#[]⟩,.slice none 0 0,.slice none 0 0,.string ⟨#[]⟩,.int .i64 0,.int .i64 0,.int .i64 0]) 112 (H 6) (gB d.sts H) Tryz.underlying74 hi2 hx0 hx1 hx2 rfl (Nat.succ_pos 7) (by simp[Act.eval] <;> rfl) (D9.out.own 6) ⟨W8.heap.size,0,none⟩ 1 1 news (by simp[Act.eval]) hlen.out s2.out s3.out Nat.one_pos s4.out s5.out ?_;intro g cap' w1 hw1 hgr hfresh;obtain⟨k5,f5,HP⟩:=HAF.out g cap' w1 hw1 hgr (by simpa using hfresh);clear hw1 hgr hfresh)
 all_goals go_wp2
 all_goals go_end0
 all_goals
  obtain⟨H',P1,P2,P3⟩:=HP.out;exact⟨rfl,H',P1,P2,P3⟩
def nc(d:Db)(p:Pl):Db:={ d with sts:=d.sts++[⟨d.kind,d.label,d.symbols,d.proof,p,0⟩] }
def mX(d:Db):Db:=if(d.kind==2)=true/\1<d.symbols.length then { d with typed:=d.typed++[d.symbols.getD 1 ⟨#[]⟩] } else d
def bt(d:Db)(p:Pl):Db :=
 if(d.kind==7)=true then { d with constants:=d.constants++d.symbols }
 else if(d.kind==8)=true then dP d d.symbols.length
 else nc (mX d) p
theorem wG{w:World}{b t o:Nat}{pre post:List Value}{d:Db}{H H0:Nat->Hd}(D:aN w b t pre post d H)(ho:pre.length=o)(e8:H 8=H0 8)(e9:H 9=H0 9) :
  w.cell? ⟨b,o+8,none⟩=some (.int .i64 d.kind)/\w.cell? ⟨b,o+9,none⟩=some (.string d.label)/\w.cell? ⟨b,o+10,none⟩=some (.slice (H0 8).ao d.symbols.length (H0 8).cap)/\w.cell? ⟨b,o+12,none⟩=some (.slice (H0 9).ao d.proof.length (H0 9).cap):=by
 obtain⟨q0,q1,q2,q3,q4,q5,q6,q7,q8,q9,q10,q11,q12⟩:=D.cells o ho;rw[e8]at q10;rw[e9]at q12;exact⟨q8,q9,q10,q12⟩
theorem wF{w w':World}{b P:Nat}{H H':Nat->Hd}{f:ByteArray}{l c:Int}(T:aw b w H w' H')(B:w.heap[P]?=some (.cells #[.string f,.int .i64 l,.int .i64 c] 36 (0,0)))(h1:P≠b)(h2:∀k,fm H k->k≠P) :
  w'.cell? ⟨P,0,none⟩=some (.string f)/\w'.cell? ⟨P,1,none⟩=some (.int .i64 l)/\w'.cell? ⟨P,2,none⟩=some (.int .i64 c):=by
 have B2:=T.1.get B (by rintro (e | e);exact h1 e;exact h2 _ e rfl);refine⟨?_,?_,?_⟩ <;> rw[aa B2] <;> rfl
set_option maxRecDepth 100000 in
theorem yp(b t o:Nat)(pre post:List Value)(d:Db)(H:Nat->Hd)(f:ByteArray)(l c:Int)(w:World)(h:aN w b t pre post d H)(ho:pre.length=o)(hm:0<d.symbols.length)(hs:eR d 10000000) :
  Calls Tryz.prog 252 #[.pointer (some ⟨b,o,none⟩),.agg #[.string f,.int .i64 l,.int .i64 c]] w fun e w'=>e=.returned (.tuple #[])/\∃H',aN w' b t pre post (bt d ⟨f,l,c⟩) H'/\aw b w H w' H':=by
 obtain⟨W,hW⟩:∃W,W=w.alloc (.cells #[.string f,.int .i64 l,.int .i64 c] 36):=⟨_,rfl⟩
 have K:ab [] w W:=by rw[hW];exact(ab.refl [] _).alloc _
 have D:=h.still K;have HW:=(show Hid _ from hW.symm);have B:W.heap[w.heap.size]?=some (.cells #[.string f,.int .i64 l,.int .i64 c] 36 (0,0)):=by rw[hW];exact heap_alloc_new _ _
 have hnb:w.heap.size≠b:=by have:=h.lt;omega
 have hni:Hid (∀k,fm H k->k≠w.heap.size):=fun k hk=>by have:=h.inlt hk;omega
 have hs8:=(show Hid (eR d 100000000) from⟨by have:=hs.labels;omega,by have:=hs.constants;omega,by have:=hs.variables;omega,by have:=hs.active;omega,by have:=hs.typed;omega,by have:=hs.blocks;omega,by have:=hs.sts;omega,by have:=hs.rbl;omega,by have:=hs.symbols;omega,by have:=hs.proof;omega⟩);clear hW;obtain⟨q0,q1,q2,q3,q4,q5,q6,q7,q8,q9,q10,q11,q12⟩:=D.cells o ho;clear q0 q1 q2 q3 q4 q5 q6 q7 q11;have hsl:=hs.symbols
 cases k7:(d.kind==7)
 ·cases k8:(d.kind==8)
  ·by_cases k2:(d.kind==2)=true/\1<d.symbols.length
   ·have HT:Hid (bt d ⟨f,l,c⟩=nc { d with typed:=d.typed++[d.symbols.getD 1 ⟨#[]⟩] } ⟨f,l,c⟩):=by show bt d ⟨f,l,c⟩=_;unfold bt mX;rw[k7,k8,if_pos k2];simp
    obtain⟨k2',hnl⟩:=k2;have hx:d.symbols.getD 1 ⟨#[]⟩=d.symbols[1]:=by rw[List.getD_eq_getElem?_getD,List.getElem?_eq_getElem hnl];rfl
    rw[hx]at HT;have hw8:aA W (H 8) (aD d.symbols):=D.own 8
    rcases hw8.ways with ⟨_,h0,_⟩ | ⟨g8,cur8,e8,-,e83,-⟩
    ·have:d.symbols.length=0:=h0
     omega
    ·have c1:=hw8.cell e8 1 (.string d.symbols[1]) (qu d.symbols 1 hnl)
     rw[e8]at q10;have hcp:d.symbols.length<=(H 8).cap:=e83;have htl:=hs.typed;clear hw8 hx;generalize d.symbols[1]=x at *;go_enter Tryz.func252,Tryz.ntmps252
     go_upto_region 1 with fail
     rw[HW.out]
     go_upto_region 3 with fail
     go_region_with (go_at_call 267;refine(wI b t o pre post d H x _ (by exact D.still (ab.refl [] _).drew) ho (by omega)).mono ?_;rintro e w2 ⟨rfl,H2,D2,T2⟩)
     all_goals
      have hni2:=hni;have B2:=T2.1.get (by exact B) (by rintro (e | e);exact hnb e;exact hni2.out _ e rfl);have hPW:=ae B
      have hni3:Hid (∀k,fm H2 k->k≠w.heap.size):=fun k hk=>by
       rcases T2.2 k hk with h' | h'
       ·exact hni2.out k h'
       ·rintro rfl
        have h2:W.heap.size<=w.heap.size:=h';omega
      have T2':=(show Hid _ from(T2.first (ab.refl [] _).drew).first K);clear q8 q9 q10 q12 c1 T2 D B;obtain⟨q0,q1,q2,q3,q4,q5,q6,q7,q8,q9,q10,q11,q12⟩:=D2.cells o ho;clear q0 q1 q2 q3 q4 q5 q6 q7 q11;simp only at q8 q9 q10 q12;have p0:w2.cell? ⟨w.heap.size,0,none⟩=some (.string f):=by rw[aa B2];rfl
      have p1:w2.cell? ⟨w.heap.size,1,none⟩=some (.int .i64 l):=by rw[aa B2];rfl
      have p2:w2.cell? ⟨w.heap.size,2,none⟩=some (.int .i64 c):=by rw[aa B2];rfl
      have hs9:=(show Hid (eR { d with typed:=d.typed++[x] } 100000000) from⟨by have:=hs.labels;simp only;omega,by have:=hs.constants;simp only;omega,by have:=hs.variables;simp only;omega,by have:=hs.active;simp only;omega,by simp;omega,by have:=hs.blocks;simp only;omega,by have:=hs.sts;simp only;omega,by have:=hs.rbl;simp only;omega,by have:=hs.symbols;simp only;omega,by have:=hs.proof;simp only;omega⟩)
     all_goals go_upto_region 4 with fail
     all_goals go_region_held3 (fun w'=>w'.cell? ⟨b,o+8,none⟩=some (.int .i64 d.kind)/\w'.cell? ⟨b,o+9,none⟩=some (.string d.label)/\w'.cell? ⟨b,o+10,none⟩=some (.slice (H2 8).ao d.symbols.length (H2 8).cap)/\w'.cell? ⟨b,o+12,none⟩=some (.slice (H2 9).ao d.proof.length (H2 9).cap)/\w'.cell? ⟨w.heap.size,0,none⟩=some (.string f)/\w'.cell? ⟨w.heap.size,1,none⟩=some (.int .i64 l)/\w'.cell? ⟨w.heap.size,2,none⟩=some (.int .i64 c)) (go_keep) (first | (go_at_call 268;refine(pu b t o pre post { d with typed:=d.typed++[x] } H2 d.kind d.label f l c _ (by exact D2.still (ab.refl [] _).drew) ho hs9.out).mono ?_;rintro e w9 ⟨rfl,H9,D9,T9,E9⟩;obtain⟨r8,r9,r10,r12⟩:=wG D9 ho (E9 8 (by omega) (by omega)) (E9 9 (by omega) (by omega));obtain⟨p0,p1,p2⟩:=wF T9 (by exact B2) hnb hni3.out))
     all_goals go_wp2
     all_goals go_end0
     all_goals exact⟨rfl,H9,by rw[HT.out];exact D9,aw.trans T2'.out (T9.first (ab.refl [] _).drew)⟩
   ·have HT:Hid (bt d ⟨f,l,c⟩=nc d ⟨f,l,c⟩):=by show bt d ⟨f,l,c⟩=_;unfold bt mX;rw[k7,k8,if_neg k2];simp
    cases k2':(d.kind==2)
    ·clear k2
     go_enter Tryz.func252,Tryz.ntmps252
     go_upto_region 1 with fail
     rw[HW.out]
     go_upto_region 4 with fail
     have p0:W.cell? ⟨w.heap.size,0,none⟩=some (.string f):=by rw[aa B];rfl
     have p1:W.cell? ⟨w.heap.size,1,none⟩=some (.int .i64 l):=by rw[aa B];rfl
     have p2:W.cell? ⟨w.heap.size,2,none⟩=some (.int .i64 c):=by rw[aa B];rfl
     go_region_held3 (fun w'=>w'.cell? ⟨b,o+8,none⟩=some (.int .i64 d.kind)/\w'.cell? ⟨b,o+9,none⟩=some (.string d.label)/\w'.cell? ⟨b,o+10,none⟩=some (.slice (H 8).ao d.symbols.length (H 8).cap)/\w'.cell? ⟨b,o+12,none⟩=some (.slice (H 9).ao d.proof.length (H 9).cap)/\w'.cell? ⟨w.heap.size,0,none⟩=some (.string f)/\w'.cell? ⟨w.heap.size,1,none⟩=some (.int .i64 l)/\w'.cell? ⟨w.heap.size,2,none⟩=some (.int .i64 c)) (go_keep) (first | (go_at_call 268;refine(pu b t o pre post d H d.kind d.label f l c _ (by exact D.still (ab.refl [] _).drew) ho hs8.out).mono ?_;rintro e w9 ⟨rfl,H9,D9,T9,E9⟩;obtain⟨r8,r9,r10,r12⟩:=wG D9 ho (E9 8 (by omega) (by omega)) (E9 9 (by omega) (by omega));obtain⟨p0,p1,p2⟩:=wF T9 (by exact B) hnb hni.out))
     all_goals go_wp2
     all_goals go_end0
     all_goals exact⟨rfl,H9,by rw[HT.out];exact D9,(T9.first (ab.refl [] _).drew).first K⟩
    ·have hnl:¬1<d.symbols.length:=fun hh=>k2 ⟨k2',hh⟩
     clear k2;go_enter Tryz.func252,Tryz.ntmps252
     go_upto_region 1 with fail
     rw[HW.out]
     go_upto_region 4 with fail
     have p0:W.cell? ⟨w.heap.size,0,none⟩=some (.string f):=by rw[aa B];rfl
     have p1:W.cell? ⟨w.heap.size,1,none⟩=some (.int .i64 l):=by rw[aa B];rfl
     have p2:W.cell? ⟨w.heap.size,2,none⟩=some (.int .i64 c):=by rw[aa B];rfl
     go_region_held3 (fun w'=>w'.cell? ⟨b,o+8,none⟩=some (.int .i64 d.kind)/\w'.cell? ⟨b,o+9,none⟩=some (.string d.label)/\w'.cell? ⟨b,o+10,none⟩=some (.slice (H 8).ao d.symbols.length (H 8).cap)/\w'.cell? ⟨b,o+12,none⟩=some (.slice (H 9).ao d.proof.length (H 9).cap)/\w'.cell? ⟨w.heap.size,0,none⟩=some (.string f)/\w'.cell? ⟨w.heap.size,1,none⟩=some (.int .i64 l)/\w'.cell? ⟨w.heap.size,2,none⟩=some (.int .i64 c)) (go_keep) (first | (go_at_call 268;refine(pu b t o pre post d H d.kind d.label f l c _ (by exact D.still (ab.refl [] _).drew) ho hs8.out).mono ?_;rintro e w9 ⟨rfl,H9,D9,T9,E9⟩;obtain⟨r8,r9,r10,r12⟩:=wG D9 ho (E9 8 (by omega) (by omega)) (E9 9 (by omega) (by omega));obtain⟨p0,p1,p2⟩:=wF T9 (by exact B) hnb hni.out))
     all_goals go_wp2
     all_goals go_end0
     all_goals exact⟨rfl,H9,by rw[HT.out];exact D9,(T9.first (ab.refl [] _).drew).first K⟩
  ·have HT:Hid (bt d ⟨f,l,c⟩=dP d d.symbols.length):=by show bt d ⟨f,l,c⟩=_;unfold bt;rw[k7,k8];simp
   go_enter Tryz.func252,Tryz.ntmps252
   go_upto_region 1 with fail
   rw[HW.out];go_wp2_with fail
   go_region_with (go_at_call 266;refine(qE b t o pre post d H _ (by exact D.still (ab.refl [] _).drew) ho hm hs8.out).mono ?_;rintro e w2 ⟨rfl,H2,D2,T2⟩)
   all_goals go_wp2
   all_goals go_end0
   all_goals exact⟨rfl,H2,by rw[HT.out];exact D2,(T2.first (ab.refl [] _).drew).first K⟩
 ·have HT:Hid (bt d ⟨f,l,c⟩={ d with constants:=d.constants++d.symbols }):=by show bt d ⟨f,l,c⟩=_;unfold bt;rw[k7];simp
  go_enter Tryz.func252,Tryz.ntmps252
  go_upto_region 1 with fail
  rw[HW.out];go_wp2_with fail
  go_region_with (go_at_call 265;refine(qD b t o pre post d H _ (by exact D.still (ab.refl [] _).drew) ho hm hs8.out).mono ?_;rintro e w2 ⟨rfl,H2,D2,T2⟩)
  all_goals go_wp2
  all_goals go_end0
  all_goals exact⟨rfl,H2,by rw[HT.out];exact D2,(T2.first (ab.refl [] _).drew).first K⟩
def gZ(d:Db)(x:ByteArray):Int:=if aI d.active x=false then 18 else if aI d.symbols x=true then 19 else 0
def g7(d:Db)(x:ByteArray):Int:=if aI d.constants x=false then 17 else 0
def fz(d:Db)(x:ByteArray):Int:=if 1<d.symbols.length then 16 else if aI d.active x=false then 18 else if aI d.typed x=true then 20 else 0
def eJ(d:Db)(x:ByteArray):Int:=if aI d.constants x=true then 0 else if aI d.active x=false then 21 else if aI d.typed x=false then 22 else 0
def aU(d:Db)(x:ByteArray):Int :=
 if(d.kind==7)=true then(if aI d.symbols x=true∨dm d x=true then 13 else 0)
 else if(d.kind==8)=true then(if aI d.symbols x=true∨dE d x=true then 13 else 0)
 else if(d.kind==1)=true then gZ d x
 else if d.symbols.length=0 then g7 d x
 else if(d.kind==2)=true then fz d x
 else eJ d x
theorem pM(b t o:Nat)(pre post:List Value)(d:Db)(H:Nat->Hd)(x:ByteArray)(w:World)(h:aN w b t pre post d H)(ho:pre.length=o)(hs:eR d 1073741824) :
  Calls Tryz.prog 256 #[.pointer (some ⟨b,o,none⟩),.string x] w fun e w'=>e=.returned (.int .i64 (gZ d x))/\w'=w:=by
 obtain⟨q0,q1,q2,q3,q4,q5,q6,q7,q8,q9,q10,q11,q12⟩:=h.cells o ho;have hsl:=hs.symbols
 cases h1:aI d.active x <;> cases h2:aI d.symbols x
 all_goals
  go_enter Tryz.func256,Tryz.ntmps256;go_wp2_with (first | (go_at_call 269;refine(jp b t o pre post d H x _ (by exact h) ho hs.active).mono ?_;rintro e w1 ⟨rfl,rfl⟩) | (go_at_call 253;refine(dS (H 8) d.symbols x _ (by exact h.own 8) hs.symbols).mono ?_;rintro e w1 ⟨rfl,rfl⟩));go_ret;exact⟨am (by simp[gZ,h1,h2]),rfl⟩
theorem pO(b t o:Nat)(pre post:List Value)(d:Db)(H:Nat->Hd)(x:ByteArray)(w:World)(h:aN w b t pre post d H)(ho:pre.length=o)(hs:eR d 1073741824) :
  Calls Tryz.prog 257 #[.pointer (some ⟨b,o,none⟩),.string x] w fun e w'=>e=.returned (.int .i64 (g7 d x))/\w'=w:=by
 obtain⟨q0,q1,q2,q3,q4,q5,q6,q7,q8,q9,q10,q11,q12⟩:=h.cells o ho;have hsl:=hs.symbols
 cases h1:aI d.constants x
 all_goals
  go_enter Tryz.func257,Tryz.ntmps257;go_wp2_with (first | (go_at_call 270;refine(li b t o pre post d H x _ (by exact h) ho hs.constants).mono ?_;rintro e w1 ⟨rfl,rfl⟩));go_ret;exact⟨am (by simp[g7,h1]),rfl⟩
theorem pN(b t o:Nat)(pre post:List Value)(d:Db)(H:Nat->Hd)(x:ByteArray)(w:World)(h:aN w b t pre post d H)(ho:pre.length=o)(hs:eR d 1073741824) :
  Calls Tryz.prog 258 #[.pointer (some ⟨b,o,none⟩),.string x] w fun e w'=>e=.returned (.int .i64 (fz d x))/\w'=w:=by
 obtain⟨q0,q1,q2,q3,q4,q5,q6,q7,q8,q9,q10,q11,q12⟩:=h.cells o ho;have hsl:=hs.symbols
 by_cases h0:1<d.symbols.length
 ·go_enter Tryz.func258,Tryz.ntmps258
  go_wp2_with (first | (go_at_call 269;refine(jp b t o pre post d H x _ (by exact h) ho hs.active).mono ?_;rintro e w1 ⟨rfl,rfl⟩) | (go_at_call 271;refine(lH b t o pre post d H x _ (by exact h) ho hs.typed).mono ?_;rintro e w1 ⟨rfl,rfl⟩));go_ret;exact⟨am (by simp[fz,h0]),rfl⟩
 ·cases h1:aI d.active x <;> cases h2:aI d.typed x
  all_goals
   go_enter Tryz.func258,Tryz.ntmps258;go_wp2_with (first | (go_at_call 269;refine(jp b t o pre post d H x _ (by exact h) ho hs.active).mono ?_;rintro e w1 ⟨rfl,rfl⟩) | (go_at_call 271;refine(lH b t o pre post d H x _ (by exact h) ho hs.typed).mono ?_;rintro e w1 ⟨rfl,rfl⟩));go_ret;exact⟨am (by simp[fz,h0,h1,h2]),rfl⟩
theorem oC(b t o:Nat)(pre post:List Value)(d:Db)(H:Nat->Hd)(x:ByteArray)(w:World)(h:aN w b t pre post d H)(ho:pre.length=o)(hs:eR d 1073741824) :
  Calls Tryz.prog 259 #[.pointer (some ⟨b,o,none⟩),.string x] w fun e w'=>e=.returned (.int .i64 (eJ d x))/\w'=w:=by
 obtain⟨q0,q1,q2,q3,q4,q5,q6,q7,q8,q9,q10,q11,q12⟩:=h.cells o ho;have hsl:=hs.symbols
 cases h0:aI d.constants x
 ·cases h1:aI d.active x <;> cases h2:aI d.typed x
  all_goals
   go_enter Tryz.func259,Tryz.ntmps259;go_wp2_with (first | (go_at_call 270;refine(li b t o pre post d H x _ (by exact h) ho hs.constants).mono ?_;rintro e w1 ⟨rfl,rfl⟩) | (go_at_call 269;refine(jp b t o pre post d H x _ (by exact h) ho hs.active).mono ?_;rintro e w1 ⟨rfl,rfl⟩) | (go_at_call 271;refine(lH b t o pre post d H x _ (by exact h) ho hs.typed).mono ?_;rintro e w1 ⟨rfl,rfl⟩));go_ret;exact⟨am (by simp[eJ,h0,h1,h2]),rfl⟩
 ·go_enter Tryz.func259,Tryz.ntmps259
  go_wp2_with (first | (go_at_call 270;refine(li b t o pre post d H x _ (by exact h) ho hs.constants).mono ?_;rintro e w1 ⟨rfl,rfl⟩) | (go_at_call 269;refine(jp b t o pre post d H x _ (by exact h) ho hs.active).mono ?_;rintro e w1 ⟨rfl,rfl⟩) | (go_at_call 271;refine(lH b t o pre post d H x _ (by exact h) ho hs.typed).mono ?_;rintro e w1 ⟨rfl,rfl⟩));go_ret;exact⟨am (by simp[eJ,h0]),rfl⟩
theorem ne(b t o:Nat)(pre post:List Value)(d:Db)(H:Nat->Hd)(x:ByteArray)(w:World)(h:aN w b t pre post d H)(ho:pre.length=o)(hs:eR d 1073741824) :
  Calls Tryz.prog 236 #[.pointer (some ⟨b,o,none⟩),.string x] w fun e w'=>e=.returned (.int .i64 (aU d x))/\w'=w:=by
 obtain⟨q0,q1,q2,q3,q4,q5,q6,q7,q8,q9,q10,q11,q12⟩:=h.cells o ho;have hsl:=hs.symbols
 cases k2:(d.kind==7)
 ·cases k3:(d.kind==8)
  ·cases k4:(d.kind==1)
   ·by_cases hz:d.symbols.length=0
    ·have HT:Hid (aU d x=g7 d x):=by show aU d x=_;simp only[aU,k2,k3,k4,hz];simp
     have hz1:((d.symbols.length:Int)==0)=true:=by simp[hz]
     clear hz;go_enter Tryz.func236,Tryz.ntmps236;go_wp2_with (first | (go_at_call 257;refine(pO b t o pre post d H x _ (by exact h) ho hs).mono ?_;rintro e w1 ⟨rfl,rfl⟩));go_ret;exact⟨am (by rw[HT.out]),rfl⟩
    ·have hz1:((d.symbols.length:Int)==0)=false:=beq_eq_false_iff_ne.2 (by omega)
     cases k5:(d.kind==2)
     ·have HT:Hid (aU d x=eJ d x):=by show aU d x=_;simp[aU,k2,k3,k4,k5,hz]
      clear hz;go_enter Tryz.func236,Tryz.ntmps236;go_wp2_with (first | (go_at_call 259;refine(oC b t o pre post d H x _ (by exact h) ho hs).mono ?_;rintro e w1 ⟨rfl,rfl⟩));go_ret;exact⟨am (by rw[HT.out]),rfl⟩
     ·have HT:Hid (aU d x=fz d x):=by show aU d x=_;simp[aU,k2,k3,k4,k5,hz]
      clear hz;go_enter Tryz.func236,Tryz.ntmps236;go_wp2_with (first | (go_at_call 258;refine(pN b t o pre post d H x _ (by exact h) ho hs).mono ?_;rintro e w1 ⟨rfl,rfl⟩));go_ret;exact⟨am (by rw[HT.out]),rfl⟩
   ·have HT:Hid (aU d x=gZ d x):=by show aU d x=_;simp[aU,k2,k3,k4]
    go_enter Tryz.func236,Tryz.ntmps236;go_wp2_with (first | (go_at_call 256;refine(pM b t o pre post d H x _ (by exact h) ho hs).mono ?_;rintro e w1 ⟨rfl,rfl⟩));go_ret;exact⟨am (by rw[HT.out]),rfl⟩
  ·cases h1:aI d.symbols x <;> cases h2:dE d x
   all_goals
    go_enter Tryz.func236,Tryz.ntmps236;go_wp2_with (first | (go_at_call 253;refine(dS (H 8) d.symbols x _ (by exact h.own 8) hs.symbols).mono ?_;rintro e w1 ⟨rfl,rfl⟩) | (go_at_call 255;refine(xg b t o pre post d H x _ (by exact h) ho hs).mono ?_;rintro e w1 ⟨rfl,rfl⟩));go_ret;exact⟨am (by simp[aU,k2,k3,h1,h2]),rfl⟩
 ·cases h1:aI d.symbols x <;> cases h2:dm d x
  all_goals
   go_enter Tryz.func236,Tryz.ntmps236;go_wp2_with (first | (go_at_call 253;refine(dS (H 8) d.symbols x _ (by exact h.own 8) hs.symbols).mono ?_;rintro e w1 ⟨rfl,rfl⟩) | (go_at_call 254;refine(ko b t o pre post d H x _ (by exact h) ho hs).mono ?_;rintro e w1 ⟨rfl,rfl⟩));go_ret;exact⟨am (by simp[aU,k2,h1,h2]),rfl⟩
end Go.Proofs.YtpddjjabfbfifaaGreat

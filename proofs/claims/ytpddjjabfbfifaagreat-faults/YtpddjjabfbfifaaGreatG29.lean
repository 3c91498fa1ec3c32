import Derived.Test.YtpddjjabfbfifaaGreatG28
namespace Go.Proofs.YtpddjjabfbfifaaGreat
open Go.RowKit
set_option maxHeartbeats 40000000
def GH(w:World)(gs:Nat)(sn:List Bool)(h:Hd)(out:List Tk)(R:List Tk×List Bool)(e:Ending)(w':World):Prop :=
 ∃h',e=.returned (.slice h'.ao R.1.length h'.cap)/\aA w' h' (ge R.1)/\iy w' gs R.2/\qA w w' gs h h'/\R.2.length=sn.length/\R.1.length+2000*aO R.2<=out.length+2000*aO sn/\aO R.2<=aO sn
structure Fp(w wr:World)(gf cap:Nat)(fs:Fs)(gs:Nat)(sn:List Bool)(h h':Hd)(O:List Tk)(gT capT:Nat)(T:List Tk):Prop where
 i:pt wr gf cap fs gs sn h' O
 r:qA w wr gs h h'
 t:aA wr ⟨some ⟨gT,0,none⟩,capT⟩ (ge T)
 b1:h'.blk≠some gT
 b2:gT≠gs
section
variable {w wr wr':World} {gf cap:Nat} {fs:Fs} {gs:Nat} {sn sn':List Bool} {h h' h'':Hd} {O O':List Tk} {gT capT:Nat} {T:List Tk}
theorem Fp.turn(a:Fp w wr gf cap fs gs sn h h' O gT capT T)(r:qA wr wr' gs h' h'')(o:aA wr' h'' (ge O'))(s:iy wr' gs sn'):Fp w wr' gf cap fs gs sn' h h'' O' gT capT T:=by
 have l1:gT<wr.heap.size:=a.t.lt rfl;refine⟨a.i.turn r o s,a.r.trans r,a.t.moved (fun q hq=>r.kept.block q (a.t.lt hq) (fun hm=>?_)),?_,a.b2⟩
 ·have e:q=gT:=by cases hq;rfl
  subst e
  rcases List.mem_cons.1 hm with e | hm
  ·exact a.b2 e
  ·exact a.b1 (aK hm)
 ·rcases r.blk with e | ⟨g,e,hg⟩
  ·rw[e];exact a.b1
  ·rw[e];intro q;cases q;omega
theorem Fp.grew(a:Fp w wr gf cap fs gs sn h h' O gT capT T)(g:bh wr wr' h' h'')(o:aA wr' h'' (ge O')):Fp w wr' gf cap fs gs sn h h'' O' gT capT T :=
 a.turn (qA.of g) o (a.i.seen.kept g.kept (fun hq=>a.i.a1 (aK hq)))
theorem Fp.still(a:Fp w wr gf cap fs gs sn h h' O gT capT T)(k:ab [] wr wr'):Fp w wr' gf cap fs gs sn h h' O gT capT T :=
 a.grew (bh.still k) (a.i.own.still k)
end
theorem mT{w w5:World}{gf cap:Nat}{fs:Fs}{gs:Nat}{sn sn':List Bool}{h h5:Hd}{out O5:List Tk}{gT capT:Nat}{T:List Tk}{R:List Tk×List Bool}(a:Fp w w5 gf cap fs gs sn' h h5 O5 gT capT T)(e:R=(O5,sn'))(hl:sn'.length=sn.length)(h1:O5.length+2000*aO sn'<=out.length+2000*aO sn)(h2:aO sn'<=aO sn){m:Nat}(hm:m=O5.length):GH w gs sn h out R (.returned (.slice h5.ao m h5.cap)) w5:=by
 subst e;subst hm;exact⟨h5,rfl,a.i.own,a.i.seen,a.r,hl,h1,h2⟩
theorem vD{rec:Nat->List Bool->List Tk->List Tk×List Bool}{fs:Fs}{t:Tk}{r:List Tk}{sn:List Bool}{O:List Tk}(h:((t.rule==0)&&(t.s.toList == []))=true):b9 rec fs (t :: r) sn O=((if cZ O=true then O else O++[oN t 7]),sn):=by
 rw[b9.eq_def];simp only;rw[if_pos h]
theorem Aw{rec:Nat->List Bool->List Tk->List Tk×List Bool}{fs:Fs}{t:Tk}{r:List Tk}{sn:List Bool}{O:List Tk}(h:((t.rule==0)&&(t.s.toList == []))=false)(h2:(t.s.toList == [36,91])=false):b9 rec fs (t :: r) sn O=b9 rec fs r sn (O++[t]):=by
 rw[b9.eq_def];simp only;rw[if_neg (by rw[h];simp),if_pos h2]
theorem Ez{rec:Nat->List Bool->List Tk->List Tk×List Bool}{fs:Fs}{t:Tk}{r:List Tk}{sn:List Bool}{O:List Tk}(h:((t.rule==0)&&(t.s.toList == []))=false)(h2:(t.s.toList == [36,91])=true)(h3:cZ O=false):b9 rec fs (t :: r) sn O=(O++[oN t 4],sn):=by
 rw[b9.eq_def];simp only;rw[if_neg (by rw[h];simp),if_neg (by rw[h2];simp),if_pos h3]
theorem yC{rec:Nat->List Bool->List Tk->List Tk×List Bool}{fs:Fs}{t a:Tk}{r:List Tk}{sn:List Bool}{O:List Tk}(h:((t.rule==0)&&(t.s.toList == []))=false)(h2:(t.s.toList == [36,91])=true)(h3:cZ O=true)(h4:(cM fs a.s a.rule==0)=false):b9 rec fs (t :: a :: r) sn O=(O++[oN a (cM fs a.s a.rule)],sn):=by
 rw[b9.eq_def];simp only;rw[if_neg (by rw[h];simp),if_neg (by rw[h2];simp),if_neg (by rw[h3];simp)]
 cases r with
 | nil=>rfl
 | cons b r=>simp only;rw[if_pos h4]
theorem EY{rec:Nat->List Bool->List Tk->List Tk×List Bool}{fs:Fs}{t a b:Tk}{r:List Tk}{sn:List Bool}{O:List Tk}(h:((t.rule==0)&&(t.s.toList == []))=false)(h2:(t.s.toList == [36,91])=true)(h3:cZ O=true)(h4:(cM fs a.s a.rule==0)=true):b9 rec fs (t :: a :: b :: r) sn O =
  if(di b.s b.rule==0)=false then(O++[oN b (di b.s b.rule)],sn)
  else if sn.getD (bt fs a.s).toNat true=true then b9 rec fs r sn O
  else if dI (rec (bt fs a.s).toNat sn O).1=true then rec (bt fs a.s).toNat sn O
  else b9 rec fs r (rec (bt fs a.s).toNat sn O).2 (rec (bt fs a.s).toNat sn O).1:=by
 rw[b9.eq_def];simp only;rw[if_neg (by rw[h];simp),if_neg (by rw[h2];simp),if_neg (by rw[h3];simp),if_neg (by rw[h4];simp)]
theorem xS(n:ByteArray)(fs:Fs)(i:Nat):cY n fs i<(i:Int)+fs.length∨fs.length=0:=by
 induction fs generalizing i with
 | nil=>exact Or.inr rfl
 | cons f r ih =>
  left
  rw[cY]
  split
  ·simp;omega
  ·rcases ih (i+1) with h | h
   ·simp at h ⊢;omega
   ·rw[List.eq_nil_of_length_eq_zero h,cY];simp;omega
theorem Jl{fs:Fs}{n:ByteArray}(h:0<=bt fs n):bt fs n<fs.length:=by
 unfold bt at h ⊢
 rcases xS n fs 0 with e | e
 ·simpa using e
 ·rw[List.eq_nil_of_length_eq_zero e,cY]at h;omega
theorem A6{fs:Fs}{s:ByteArray}{r:Int}(h:(cM fs s r==0)=true):(s.toList == [])=false/\0<=bt fs s:=by
 unfold cM at h
 cases hr:(r==0)
 ·rw[if_pos hr,hr]at h;cases h
 ·rw[if_neg (by rw[hr];simp)]at h
  cases hs:(s.toList == [])
  ·rw[if_neg (by rw[hs];simp)]at h
   refine⟨rfl,?_⟩
   split at h
   ·cases h
   ·split at h
    ·cases h
    ·omega
  ·rw[if_pos hs]at h;cases h
set_option maxRecDepth 100000 in
theorem Ef(fs:Fs)(gf cap:Nat)(hfl:fs.length<=4)(hfd:∀k,(aj fs k).size<=1024)(n:Nat):∀(k:Nat) (sn:List Bool) (out:List Tk) (h:Hd) (gs scap:Nat) (w:World),aO sn<=n->sn.length=fs.length->fs.length<=scap->k<fs.length->sn[k]?=some false->out.length+2000*aO sn<=100000->pt w gf cap fs gs sn h out ->
  Calls Tryz.prog 82 #[.slice (some ⟨gf,0,none⟩) fs.length cap,.int .i64 k,.slice (some ⟨gs,0,none⟩) fs.length scap,.slice h.ao out.length h.cap] w fun e w'=>GH w gs sn h out (dx fs n k sn out) e w':=by
 induction n with
 | zero=>intro k sn out h gs scap w hn hsl hsc hk hs;have:=Az sn k hs;omega
 | succ n ih =>
  intro k sn out h gs scap w hn hsl hsc hk hs hb hI;have HIH:=(show Hid _ from ih);clear ih;have hki:(k:Int)<(fs.length:Int):=by omega
  have s0:=hI.seen.cell k false hs;have s1:=ak hI.seen k;have hgs:=ae hI.seen;have hcap:=hI.src.1;have k1:ab [gs] w (w.setCell ⟨gs,k,none⟩ (.bool true)):=(ab.refl [gs] w).setCell (Or.inl (by simp)) _;obtain⟨w1,Hw1⟩:∃w1,Hid (w.setCell ⟨gs,k,none⟩ (.bool true)=w1):=⟨_,rfl⟩
  rw[Hw1.out]at k1;have R1:qA w w1 gs h h:=⟨k1.mono (fun x hx _=>by simp at hx;simp[hx]),Or.inl rfl⟩;have hI1:pt w1 gf cap fs gs (sn.set k true) h out:=hI.turn R1 (hI.own.moved (fun q hq=>k1.block q (hI.own.lt hq) (by simp;intro e;exact hI.a1 (by rw[<-e];exact hq)))) (by rw[<-Hw1.out];exact hI.seen.set k);have hu:=jR sn k hs;have hl1:(sn.set k true).length=fs.length:=by rw[List.length_set];exact hsl
  obtain⟨gf',e1,hgf,c0,c1⟩:=hI1.src.2 k hk
  cases e1
  have hdl:=hfd k;have HTL:=(show Hid _ from ye fs k);have HTE:=(show Hid _ from Io fs k);have HTS:=(show Hid _ from Eg fs k);have HT:Hid (oL fs k=bJ false (fR (aC fs k) (aj fs k))):=rfl;have HR:Hid (dx fs (n+1) k sn out=b9 (dx fs n) fs (oL fs k) (sn.set k true) out):=rfl;have HWS:=(show Hid _ from sV (aC fs k) (aj fs k));have hwl:=vZ (aC fs k) (aj fs k);obtain⟨R,HRR⟩:∃R,Hid (dx fs (n+1) k sn out=R):=⟨_,rfl⟩
  rw[HRR.out]at HR ⊢;have HI1:=(show Hid _ from hI1);have HR1:=(show Hid _ from R1);clear hI1 R1 k1 hI;go_enter Tryz.func82,Tryz.ntmps82
  go_upto_region 2 with fail
  rw[Hw1.out]
  go_upto_region 3 with (go_at_call 115;refine(Bd _ _ _ (by omega)).mono ?_;rintro e w2 ⟨hW,rfl,oW,kW,fW⟩)
  have HBR:=(show Hid _ from E5 (fR (aC fs k) (aj fs k)) hW.ao hW.cap w2 (by omega) oW.src (fun t ht=>by have:=HWS.out t ht;omega));rw[<-HT.out]at HBR
  go_upto_region 4 with (go_at_call 116;refine(Calls.mono HBR.out ?_);rintro e w3 ⟨hT,rfl,bT⟩)
  obtain⟨T,HTT⟩:∃T,Hid (oL fs k=T):=⟨_,rfl⟩
  rw[HTT.out]at HTL HTE HTS HR bT ⊢
  have hTp:0<T.length:=by
   obtain⟨u,e1,-⟩:=HTE.out
   cases T with
   | nil=>cases e1
   | cons _ _=>simp
  obtain⟨gT,eT,hgT,hcT⟩:=od bT.own hTp;obtain⟨aoT,capT⟩:=hT;simp only at eT;subst eT;have hcT:T.length<=capT:=hcT;have hTl:T.length<=1026:=by have:=HTL.out;omega
  have HS0:Hid (Fp w w3 gf cap fs gs (sn.set k true) h h out gT capT T):=by
   have f1:=bT.far gT rfl;have f2:=kW.size;have f3:=ae HI1.out.seen;refine⟨(HI1.out.still kW).still bT.kept,HR1.out.trans (qA.of (bh.still (kW.trans bT.kept))),bT.own,fun e=>?_,by omega⟩;have:=HI1.out.own.lt e;omega
  obtain⟨U1,HU1⟩:∃U1,Hid (aO (sn.set k true)=U1):=⟨_,rfl⟩
  obtain⟨U,HU⟩:∃U,Hid (aO sn=U):=⟨_,rfl⟩
  rw[HU1.out]at hu;rw[HU.out]at hu hn hb;clear c0 c1 s0 s1 hgf HI1 HR1 Hw1 oW kW fW HBR bT HWS HT hwl;go_wp2
  go_loopg [3,11] T.length (fun g o i wr=>∃(q:Nat) (h':Hd) (O:List Tk) (sn':List Bool),q<=T.length/\g=T.length-q/\o=.slice h'.ao O.length h'.cap/\i=.int .i64 q/\(O.length+2000*aO sn'<=out.length+q+2000*U1/\aO sn'<=U1/\sn'.length=fs.length)/\Hid (b9 (dx fs n) fs (T.drop q) sn' O=R)/\Hid (Fp w wr gf cap fs gs sn' h h' O gT capT T))
  case atStart=>exact⟨0,h,out,sn.set k true,by omega,rfl,rfl,rfl,⟨by rw[HU1.out];omega,by rw[HU1.out];omega,hl1⟩,by show _=_;rw[List.drop_zero];exact HR.out.symm,HS0⟩
  case round =>
   obtain⟨q,h',O,sn',hq,hg,rfl,rfl,⟨z1,z2,z3⟩,HE,HS⟩:=hrel;obtain⟨U2,HU2⟩:∃U2,Hid (aO sn'=U2):=⟨_,rfl⟩
   rw[HU2.out]at z1 z2
   by_cases hlt:q<T.length
   ·have hqi:(q:Int)<(T.length:Int):=by omega
    obtain⟨c0,c1,c2,c3,c4⟩:=nR HS.out.t rfl q T[q] (List.getElem?_eq_getElem hlt);have HD:=(show Hid _ from List.drop_eq_getElem_cons hlt);have HNX:Hid ((T[q].s.toList == [])=false->q+1<T.length):=fun he=>so.next HTE.out q _ (List.getElem?_eq_getElem hlt) he
    rw[HD.out]at HE;obtain⟨bw,HBW⟩:∃bw,Hid (cZ O=bw):=⟨_,rfl⟩
    have HBT:=(show Hid _ from xM O h'.ao h'.cap wr (by omega) HS.out.i.own.src);rw[HBW.out]at HBT;have hgr:gT<wr.heap.size:=HS.out.t.lt rfl;generalize T[q]=t at *;obtain⟨ts,tr,tf,tl,tc⟩:=t;simp only at c0 c1 c2 c3 c4 HNX
    go_upto_region 8 with (go_at_call 117;refine Calls.mono HBT.out ?_;rintro e w4 ⟨rfl,hw4⟩;rw[hw4];clear hw4)
    clear HBT
    go_cut [47] from 34 to 47 (fun s47 wd=>s47=.bool ((tr==0)&&(ts.toList == []))/\wd=wr)
    case first =>
     cases hr:(tr==0)
     ·go_wp2_with fail
      go_meet
      case rel=>exact⟨by rw[hr];rfl,rfl⟩
     ·cases he:(ts.toList == [])
      ·go_wp2_with fail
       go_meet
       case rel=>exact⟨by rw[hr,he];rfl,rfl⟩
      ·go_wp2_with fail
       go_meet
       case rel=>exact⟨by rw[hr,he];rfl,rfl⟩
    case rest =>
     obtain⟨rfl,hwc⟩:=hcut;subst hwc
     cases hA:((tr==0)&&(ts.toList == []))
     ·cases hi:(ts.toList == [36,91])
      ·have HN:Hid (b9 (dx fs n) fs (T.drop (q+1)) sn' (O++[⟨ts,tr,tf,tl,tc⟩])=R):=by show _=_;rw[<-HE.out];exact(Aw hA hi).symm
       go_wp2_with (at_builtin;refine bP _ rfl (.tmp 66) (.tmp 71) rfl h' O ⟨ts,tr,tf,tl,tc⟩ rfl HS.out.i.own (by omega) rfl ?_;intro h5 w5 hw5 hg5;have HM:=(show Hid _ from HS.out.grew hg5 hw5);clear hw5 hg5)
       go_roundg (T.length-(q+1))
       case measure=>omega
       case rel=>exact⟨q+1,h5,O++[⟨ts,tr,tf,tl,tc⟩],sn',by omega,rfl,by simp,by go_num,⟨by rw[HU2.out];simp;omega,by rw[HU2.out];exact z2,z3⟩,HN,HM⟩
      ·cases bw
       ·have HN:Hid (R=(O++[oN ⟨ts,tr,tf,tl,tc⟩ 4],sn')):=by show _=_;rw[<-HE.out];exact Ez hA hi HBW.out
        have hno:(O++[oN ⟨ts,tr,tf,tl,tc⟩ 4]).length+2000*aO sn'<=out.length+2000*aO sn:=by rw[HU2.out,HU.out];simp;omega
        have hno2:aO sn'<=aO sn:=by rw[HU2.out,HU.out];omega
        go_wp2_with (at_builtin;refine bP _ rfl (.tmp 75) (.tmp 82) rfl h' O (oN ⟨ts,tr,tf,tl,tc⟩ 4) rfl HS.out.i.own (by omega) rfl ?_;intro h5 w5 hw5 hg5;have HM:=(show Hid _ from HS.out.grew hg5 hw5);clear hw5 hg5);go_ret;exact mT HM.out HN.out (by omega) hno hno2 (by simp)
       ·have he:(ts.toList == [])=false:=by
         have e:ts.toList=[36,91]:=by simpa using hi
         rw[e];rfl
        have hq1:=HNX.out he;obtain⟨d0,d1,d2,d3,d4⟩:=nR HS.out.t rfl (q+1) T[q+1] (List.getElem?_eq_getElem hq1);have HD1:=(show Hid _ from List.drop_eq_getElem_cons hq1);rw[HD1.out]at HE;have hsa:=HTS.out T[q+1] (List.getElem_mem hq1);have HNX2:Hid ((T[q+1].s.toList == [])=false->q+1+1<T.length):=fun he=>so.next HTE.out (q+1) _ (List.getElem?_eq_getElem hq1) he
        have HA1:Hid (T[q+1]?=some T[q+1]):=List.getElem?_eq_getElem hq1;generalize T[q+1]=a at *;obtain⟨xs,ar,af,al,ac⟩:=a;simp only at d0 d1 d2 d3 d4 HNX2 hsa;have hq1i:(q:Int)+1<(T.length:Int):=by omega
        obtain⟨r1,Hr1⟩:∃r1,Hid (cM fs xs ar=r1):=⟨_,rfl⟩
        have HNM:=(show Hid _ from Al fs (some ⟨gf,0,none⟩) cap xs af ar al ac _ (by omega) HS.out.i.src (by omega));rw[Hr1.out]at HNM
        go_upto_region 17 with (go_at_call 118;refine Calls.mono HNM.out ?_;rintro e w5 ⟨rfl,k5⟩)
        obtain⟨W5,HW5⟩:∃W5,Hid (w5.alloc (.cells #[.string ⟨#[]⟩,.int .i64 r1,.string af,.int .i64 al,.int .i64 ac] 138)=W5):=⟨_,rfl⟩
        have BW5:W5.heap[w5.heap.size]?=some (.cells #[.string ⟨#[]⟩,.int .i64 r1,.string af,.int .i64 al,.int .i64 ac] 138 (0,0)):=by rw[<-HW5.out];exact heap_alloc_new _ _
        have K5:=k5.trans (show ab [] w5 W5 by rw[<-HW5.out];exact(ab.refl [] _).alloc _);have HS5:=(show Hid _ from HS.out.still K5);have hy5:=ae BW5;have hz5:=k5.size;rw[HW5.out];clear c0 c1 c2 c3 c4 d0 d1 d2 d3 d4 HW5 HNM k5;have p0:W5.cell? ⟨w5.heap.size,0,none⟩=some (.string ⟨#[]⟩):=by rw[aa BW5];rfl
        have p1:W5.cell? ⟨w5.heap.size,1,none⟩=some (.int .i64 r1):=by rw[aa BW5];rfl
        have p2:W5.cell? ⟨w5.heap.size,2,none⟩=some (.string af):=by rw[aa BW5];rfl
        have p3:W5.cell? ⟨w5.heap.size,3,none⟩=some (.int .i64 al):=by rw[aa BW5];rfl
        have p4:W5.cell? ⟨w5.heap.size,4,none⟩=some (.int .i64 ac):=by rw[aa BW5];rfl
        cases h1:(r1==0)
        ·have HN:Hid (R=(O++[oN ⟨xs,ar,af,al,ac⟩ r1],sn')):=by show _=_;rw[<-HE.out,yC hA hi HBW.out (by show(cM fs xs ar==0)=false;rw[Hr1.out];exact h1)];simp only;rw[Hr1.out]
         have hno:(O++[oN ⟨xs,ar,af,al,ac⟩ r1]).length+2000*aO sn'<=out.length+2000*aO sn:=by rw[HU2.out,HU.out];simp;omega
         have hno2:aO sn'<=aO sn:=by rw[HU2.out,HU.out];omega
         go_wp2_with (at_builtin;refine bP _ rfl (.tmp 103) (.tmp 105) rfl h' O (oN ⟨xs,ar,af,al,ac⟩ r1) rfl HS5.out.i.own (by omega) rfl ?_;intro h5 w8 hw5 hg5;have HM:=(show Hid _ from HS5.out.grew hg5 hw5);clear hw5 hg5);go_ret;exact mT HM.out HN.out (by omega) hno hno2 (by simp)
        ·have hr1:r1=0:=by simpa using h1
         subst hr1;clear h1;have HNZ:Hid ((cM fs xs ar==0)=true):=by show _=_;rw[Hr1.out];rfl
         obtain⟨hse,hf0⟩:=A6 HNZ.out;have hq2:q+2<T.length:=HNX2.out hse;obtain⟨d0,d1,d2,d3,d4⟩:=nR HS5.out.t rfl (q+2) T[q+2] (List.getElem?_eq_getElem hq2);have HD2:Hid (T.drop (q+1+1)=T[q+2] :: T.drop (q+3)):=List.drop_eq_getElem_cons hq2;rw[HD2.out]at HE;generalize T[q+2]=b at *;obtain⟨bs,br,bf,bl,bc⟩:=b;simp only at d0 d1 d2 d3 d4;have hq2i:(q:Int)+2<(T.length:Int):=by omega
         obtain⟨r2,Hr2⟩:∃r2,Hid (di bs br=r2):=⟨_,rfl⟩
         have HCL:=(show Hid _ from yY bs bf br bl bc W5);rw[Hr2.out]at HCL;have HI2:=(show Hid _ from EY (rec:=dx fs n) (fs:=fs) (r:=T.drop (q+3)) (sn:=sn') (t:=⟨ts,tr,tf,tl,tc⟩) (a:=⟨xs,ar,af,al,ac⟩) (b:=⟨bs,br,bf,bl,bc⟩) hA hi HBW.out HNZ.out);rw[HE.out]at HI2;simp only at HI2;rw[Hr2.out]at HI2
         go_upto_region 19 with (go_at_call 119;refine Calls.mono HCL.out ?_;rintro e w6 ⟨rfl,k6⟩;have BW6:=k6.get BW5 (by simp);have f0:=ak BW6 0;have f1:=ak BW6 1;have f2:=ak BW6 2;have f3:=ak BW6 3;have f4:=ak BW6 4;have o0:=aa BW6 0;have o1:=aa BW6 1;have o2:=aa BW6 2;have o3:=aa BW6 3;have o4:=aa BW6 4;have hy6:=ae BW6)
         obtain⟨W6,HW6⟩:∃W6,Hid (((((w6.setCell ⟨w5.heap.size,0,none⟩ (.string ⟨#[]⟩)).setCell ⟨w5.heap.size,1,none⟩ (.int .i64 r2)).setCell ⟨w5.heap.size,2,none⟩ (.string bf)).setCell ⟨w5.heap.size,3,none⟩ (.int .i64 bl)).setCell ⟨w5.heap.size,4,none⟩ (.int .i64 bc)=W6):=⟨_,rfl⟩
         have K6:=(show Hid (ab [] _ W6) by rw[<-HW6.out];exact(((((K5.trans k6).setCell (Or.inr (by exact hz5)) _).setCell (Or.inr (by exact hz5)) _).setCell (Or.inr (by exact hz5)) _).setCell (Or.inr (by exact hz5)) _).setCell (Or.inr (by exact hz5)) _);have HS6:=(show Hid _ from HS.out.still K6.out)
         have BX:W6.heap[w5.heap.size]?=some (.cells #[.string ⟨#[]⟩,.int .i64 r2,.string bf,.int .i64 bl,.int .i64 bc] 138 (0,0)):=by
          rw[<-HW6.out,ah (ah (ah (ah (ah BW6 0 _) 1 _) 2 _) 3 _) 4 _];rfl
         rw[HW6.out];clear p0 p1 p2 p3 p4 d0 d1 d2 d3 d4 f0 f1 f2 f3 f4 o0 o1 o2 o3 o4 HCL HW6 BW5 BW6 K6 k6 K5;have p0:W6.cell? ⟨w5.heap.size,0,none⟩=some (.string ⟨#[]⟩):=by rw[aa BX];rfl
         have p1:W6.cell? ⟨w5.heap.size,1,none⟩=some (.int .i64 r2):=by rw[aa BX];rfl
         have p2:W6.cell? ⟨w5.heap.size,2,none⟩=some (.string bf):=by rw[aa BX];rfl
         have p3:W6.cell? ⟨w5.heap.size,3,none⟩=some (.int .i64 bl):=by rw[aa BX];rfl
         have p4:W6.cell? ⟨w5.heap.size,4,none⟩=some (.int .i64 bc):=by rw[aa BX];rfl
         have hyX:=ae BX
         cases h2:(r2==0)
         ·have HN:Hid (R=(O++[oN ⟨bs,br,bf,bl,bc⟩ r2],sn')):=by show _=_;rw[HI2.out,if_pos h2]
          have hno:(O++[oN ⟨bs,br,bf,bl,bc⟩ r2]).length+2000*aO sn'<=out.length+2000*aO sn:=by rw[HU2.out,HU.out];simp;omega
          have hno2:aO sn'<=aO sn:=by rw[HU2.out,HU.out];omega
          go_wp2_with (at_builtin;refine bP _ rfl (.tmp 103) (.tmp 105) rfl h' O (oN ⟨bs,br,bf,bl,bc⟩ r2) rfl HS6.out.i.own (by omega) rfl ?_;intro h5 w8 hw5 hg5;have HM:=(show Hid _ from HS6.out.grew hg5 hw5);clear hw5 hg5);go_ret;exact mT HM.out HN.out (by omega) hno hno2 (by simp)
         ·have hr2:r2=0:=by simpa using h2
          subst hr2;clear h2;rw[if_neg (by simp)]at HI2;obtain⟨jn,hjn⟩:∃jn:Nat,bt fs xs=(jn:Int):=⟨(bt fs xs).toNat,by omega⟩
          have hjl:jn<fs.length:=by have:=Jl hf0;omega
          have hji:(jn:Int)<(fs.length:Int):=by omega
          have hji0:(0:Int)<=(jn:Int):=by omega
          have HFD:=(show Hid _ from kY fs (some ⟨gf,0,none⟩) cap xs W6 (by omega) HS6.out.i.src);rw[hjn]at HFD HI2;rw[Int.toNat_natCast]at HI2;obtain⟨e0,-⟩:=nR HS6.out.t rfl (q+1) _ HA1.out;simp only at e0;obtain⟨bj,hbj⟩:∃bj,sn'[jn]?=some bj:=⟨_,List.getElem?_eq_getElem (by omega)⟩
          have sj:=HS6.out.i.seen.cell jn bj hbj;have hgd:sn'.getD jn true=bj:=by rw[List.getD_eq_getElem?_getD,hbj];rfl
          rw[hgd]at HI2;have hg6:=ae HS6.out.i.seen;have hgT6:gT<W6.heap.size:=HS6.out.t.lt rfl;clear hjn hf0
          cases bj
          ·rw[if_neg (by simp)]at HI2
           have HREC:=(show Hid _ from HIH.out jn sn' O h' gs scap W6 (by rw[HU2.out];omega) z3 hsc hjl hbj (by rw[HU2.out];omega) HS6.out.i);obtain⟨R7,HR7⟩:∃R7,Hid (dx fs n jn sn' O=R7):=⟨_,rfl⟩
           rw[HR7.out]at HREC HI2;obtain⟨O7,sn7⟩:=R7
           go_upto_region 24 with (first | (go_at_call 35;refine Calls.mono HFD.out ?_;rintro e w9 ⟨rfl,hw9⟩;rw[hw9];clear hw9) | (go_at_call 82;refine Calls.mono HREC.out ?_;rintro e w7 ⟨h7,rfl,o7,s7,r7,l7,n7,u7⟩;have HS7:=(show Hid _ from HS6.out.turn r7 o7 s7)))
           clear p0 p1 p2 p3 p4 e0 sj HREC HFD BX;have l7:sn7.length=sn'.length:=l7;have n7:O7.length+2000*aO sn7<=O.length+2000*aO sn':=n7;have u7:aO sn7<=aO sn':=u7;obtain⟨bk,HBK⟩:∃bk,Hid (dI O7=bk):=⟨_,rfl⟩
           have hO7:O7.length<=100000:=by rw[HU2.out]at n7;omega
           have HBR:=(show Hid _ from rG O7 h7.ao h7.cap w7 hO7 o7.src);rw[HBK.out]at HBR HI2;rw[HU2.out]at n7 u7;clear o7 s7 r7
           cases bk
           ·have HN:Hid (b9 (dx fs n) fs (T.drop (q+3)) sn7 O7=R):=by show _=_;rw[HI2.out,if_neg (by simp)]
            go_wp2_with (go_at_call 83;refine Calls.mono HBR.out ?_;rintro e w9 ⟨rfl,hw9⟩;rw[hw9];clear hw9)
            go_roundg (T.length-(q+3))
            case measure=>omega
            case rel=>exact⟨q+3,h7,O7,sn7,by omega,rfl,rfl,by go_num,⟨by omega,by omega,by omega⟩,HN,HS7⟩
           ·have HN:Hid (R=(O7,sn7)):=by show _=_;rw[HI2.out,if_pos rfl]
            have hno:O7.length+2000*aO sn7<=out.length+2000*aO sn:=by rw[HU.out];omega
            have hno2:aO sn7<=aO sn:=by rw[HU.out];omega
            go_wp2_with (go_at_call 83;refine Calls.mono HBR.out ?_;rintro e w9 ⟨rfl,hw9⟩;rw[hw9];clear hw9);go_ret;exact mT HS7.out HN.out (by omega) hno hno2 rfl
          ·rw[if_pos rfl]at HI2
           go_wp2_with (go_at_call 35;refine Calls.mono HFD.out ?_;rintro e w9 ⟨rfl,hw9⟩;rw[hw9];clear hw9)
           go_roundg (T.length-(q+3))
           case measure=>omega
           case rel=>exact⟨q+3,h',O,sn',by omega,rfl,rfl,by go_num,⟨by rw[HU2.out];omega,by rw[HU2.out];exact z2,z3⟩,HI2.out.symm,HS6⟩
     ·cases bw
      ·have HN:Hid (R=(O++[oN ⟨ts,tr,tf,tl,tc⟩ 7],sn')):=by show _=_;rw[<-HE.out];exact by rw[vD hA,if_neg (by rw[HBW.out];simp)]
       have hno:(O++[oN ⟨ts,tr,tf,tl,tc⟩ 7]).length+2000*aO sn'<=out.length+2000*aO sn:=by rw[HU2.out,HU.out];simp;omega
       have hno2:aO sn'<=aO sn:=by rw[HU2.out,HU.out];omega
       go_wp2_with (at_builtin;refine bP _ rfl (.tmp 50) (.tmp 57) rfl h' O (oN ⟨ts,tr,tf,tl,tc⟩ 7) rfl HS.out.i.own (by omega) rfl ?_;intro h5 w5 hw5 hg5;have HM:=(show Hid _ from HS.out.grew hg5 hw5);clear hw5 hg5);go_ret;exact mT HM.out HN.out (by omega) hno hno2 (by simp)
      ·have HN:Hid (R=(O,sn')):=by show _=_;rw[<-HE.out,vD hA,if_pos HBW.out]
       have hno:O.length+2000*aO sn'<=out.length+2000*aO sn:=by rw[HU2.out,HU.out];omega
       have hno2:aO sn'<=aO sn:=by rw[HU2.out,HU.out];omega
       go_wp2;go_ret;exact mT HS.out HN.out (by omega) hno hno2 rfl
   ·have e:q=T.length:=by omega
    subst e;have HN:Hid (R=(O,sn')):=by show _=_;rw[<-HE.out,List.drop_length,b9]
    have hno:O.length+2000*aO sn'<=out.length+2000*aO sn:=by rw[HU2.out,HU.out];omega
    have hno2:aO sn'<=aO sn:=by rw[HU2.out,HU.out];omega
    go_wp2;go_ret;exact mT HS.out HN.out (by omega) hno hno2 rfl
theorem Ih:(Tryz.prog.info? 4).map (fun i=>(i.zero,i.size,i.bytes))=some (some (.bool false),1,1):=by kernel_rfl
theorem sP(n:Nat):madeCells (Value.bool false).cells (n*1)=((List.replicate n false).map Value.bool).toArray:=by
 rw[Nat.mul_one]
 apply Array.ext
 ·rw[size_madeCells];simp
 ·intro i h1 h2
  have e:(Value.bool false).cells=#[.bool false]:=rfl;simp[madeCells,e,Nat.mod_one]
def np(fs:Fs)(k:Nat):List Tk:=(dx fs fs.length k (List.replicate fs.length false) []).1
def ic:Tk:=⟨⟨#[]⟩,0,⟨#[]⟩,0,0⟩
def da(fs:Fs)(k:Nat):List Tk×Tk:=if dI (np fs k)=true then((np fs k).dropLast,(np fs k).getLast?.getD ic) else(np fs k,ic)
theorem lq(n:Nat):aO (List.replicate n false)=n:=by
 unfold aO;rw[List.countP_replicate];simp
theorem jU.drop{w:World}{ao:Option Addr}{cap:Nat}{L:List Tk}(h:jU w ao cap L):jU w ao cap L.dropLast:=by
 refine⟨by rw[List.length_dropLast];have:=h.1;omega,fun k t ht=>h.2 k t ?_⟩;rw[List.getElem?_dropLast]at ht
 split at ht
 ·exact ht
 ·cases ht
theorem jU.keptS{w w':World}{ao:Option Addr}{cap:Nat}{L:List Tk}{S:List Nat}(h:jU w ao cap L)(k:ab S w w')(hS:∀g,ao=some ⟨g,0,none⟩->g∉S):jU w' ao cap L:=by
 refine⟨h.1,fun j t ht=>?_⟩;obtain⟨g,e,hg,c0,c1,c2,c3,c4⟩:=h.2 j t ht;have q:∀o,w'.cell? ⟨g,o,none⟩=w.cell? ⟨g,o,none⟩:=fun o=>World.cell?_of_block (k.block g hg (hS g e))
 exact⟨g,e,Nat.lt_of_lt_of_le hg k.size,by rw[q];exact c0,by rw[q];exact c1,by rw[q];exact c2,by rw[q];exact c3,by rw[q];exact c4⟩
theorem qq{w:World}{B:Nat}{a0 a1 a2 a3:Value}(h:w.heap[B]?=some (.cells #[a0,a1,a2,a3] 87 (0,0)))(v0 v1 v2 v3:Value) :
  (w.setCell ⟨B,0,none⟩ v0).cell? ⟨B,0,none⟩=some v0/\((w.setCell ⟨B,0,none⟩ v0).setCell ⟨B,1,none⟩ v1).cell? ⟨B,1,none⟩=some v1/\(((w.setCell ⟨B,0,none⟩ v0).setCell ⟨B,1,none⟩ v1).setCell ⟨B,2,none⟩ v2).cell? ⟨B,2,none⟩=some v2/\((((w.setCell ⟨B,0,none⟩ v0).setCell ⟨B,1,none⟩ v1).setCell ⟨B,2,none⟩ v2).setCell ⟨B,3,none⟩ v3).cell? ⟨B,3,none⟩=some v3:=by
 have b0:=ah h 0 v0;have b1:=ah b0 1 v1;have b2:=ah b1 2 v2;have b3:=ah b2 3 v3;exact⟨by rw[aa b0];rfl,by rw[aa b1];rfl,by rw[aa b2];rfl,by rw[aa b3];rfl⟩
set_option maxRecDepth 100000 in
theorem DI(fs:Fs)(gf cap k:Nat)(w:World)(hfl:fs.length<=4)(hfd:∀k,(aj fs k).size<=1024)(hk:k<fs.length)(hO:lR w (some ⟨gf,0,none⟩) cap fs)(hg:gf<w.heap.size) :
  Calls Tryz.prog 54 #[.slice (some ⟨gf,0,none⟩) fs.length cap,.int .i64 k] w fun e w'=>∃ao c,e=.returned (.tuple #[.slice ao (da fs k).1.length c,.agg #[.int .i64 (da fs k).2.rule,.string (da fs k).2.file,.int .i64 (da fs k).2.line,.int .i64 (da fs k).2.col]])/\jU w' ao c (da fs k).1/\ab [] w w':=by
 obtain⟨i1,hi1,hy0,hy1,hy2⟩:=info_parts Ih;have m2:=fun w=>dn (P:=Tryz.prog) w 134 4 i1 _ Tryz.underlying134 hi1 hy0 fs.length 1 hy1 (by rw[hy2];omega) (by omega)
 obtain⟨mc,Hmc⟩:∃mc,Hid (madeCells (Value.bool false).cells (fs.length*1)=mc):=⟨_,rfl⟩
 have HMC:Hid (mc=((List.replicate fs.length false).map Value.bool).toArray):=by show _=_;rw[<-Hmc.out,sP]
 rw[Hmc.out]at m2;have hcap:=hO.1;obtain⟨W,HW⟩:∃W,Hid ((w.alloc (.cells #[.int .i64 0,.string ⟨#[]⟩,.int .i64 0,.int .i64 0] 87)).alloc (.cells mc 4)=W):=⟨_,rfl⟩
 have KW:ab [] w W:=by rw[<-HW.out];exact((ab.refl [] _).alloc _).alloc _
 have SW:iy W (w.heap.size+1) (List.replicate fs.length false):=by
  rw[<-HW.out,HMC.out];have:=heap_alloc_new (w.alloc (.cells #[.int .i64 0,.string ⟨#[]⟩,.int .i64 0,.int .i64 0] 87)) (.cells ((List.replicate fs.length false).map Value.bool).toArray 4);simpa [iy] using this
 have BF:W.heap[w.heap.size]?=some (.cells #[.int .i64 0,.string ⟨#[]⟩,.int .i64 0,.int .i64 0] 87 (0,0)):=by
  rw[<-HW.out];exact((ab.refl [] _).alloc _).get (heap_alloc_new _ _) (by simp)
 have hI:pt W gf cap fs (w.heap.size+1) (List.replicate fs.length false) ⟨none,0⟩ []:=⟨World.ownsRow_nil _ _ _ _,SW,hO.kept KW (by simp),(by intro e;cases e),(by intro e;cases e),by omega,Nat.lt_of_lt_of_le hg KW.size⟩;have HRD:=(show Hid _ from Ef fs gf cap hfl hfd fs.length k (List.replicate fs.length false) [] ⟨none,0⟩ (w.heap.size+1) fs.length W (by rw[lq];omega) (by simp) (by omega) hk (by rw[List.getElem?_replicate];simp[hk]) (by rw[lq];simp;omega) hI);have HKW:=(show Hid _ from KW);clear hI SW KW hO;go_enter Tryz.func54,Tryz.ntmps54
 go_upto_region 2 with fail
 rw[HW.out];obtain⟨R7,HR7⟩:∃R7,Hid (dx fs fs.length k (List.replicate fs.length false) []=R7):=⟨_,rfl⟩
 rw[HR7.out]at HRD;have HAL:Hid (np fs k=R7.1):=by show _=_;unfold np;rw[HR7.out]
 obtain⟨L,sn7⟩:=R7;have HAL:Hid (np fs k=L):=HAL.out
 go_upto_region 3 with (go_at_call 82;refine Calls.mono HRD.out ?_;rintro e w7 ⟨h7,rfl,o7,s7,r7,l7,n7,u7⟩)
 have n7:L.length+2000*aO sn7<=0+2000*aO (List.replicate fs.length false):=n7;rw[lq]at n7;have o7:aA w7 h7 (ge L):=o7;have hL:L.length<=100000:=by omega
 have kr:ab [w.heap.size+1] W w7:=r7.kept;have B7:=kr.get BF (by simp)
 have HFR:Hid (∀g,h7.ao=some ⟨g,0,none⟩->g∉[w.heap.size]):=fun g eg hq=>by
  have e2:h7.blk=some g:=by unfold Hd.blk;rw[eg];rfl
  have e3:=ae BF;simp at hq
  rcases r7.blk with e | ⟨q,e,hq2⟩
  ·rw[e2]at e;cases e
  ·rw[e2]at e;cases e;omega
 have HK7:Hid (ab [] w w7):=⟨kr.os.trans HKW.out.os,kr.tape.trans HKW.out.tape,kr.output.trans HKW.out.output,Nat.le_trans HKW.out.size kr.size,fun q hq _=>by rw[kr.block q (Nat.lt_of_lt_of_le hq HKW.out.size) (by simp;omega),HKW.out.block q hq (by simp)]⟩;obtain⟨bk,HBK⟩:∃bk,Hid (dI L=bk):=⟨_,rfl⟩
 have HBR:=(show Hid _ from rG L h7.ao h7.cap w7 hL o7.src);rw[HBK.out]at HBR;have f0:=ak B7 0;have f1:=ak B7 1;have f2:=ak B7 2;have f3:=ak B7 3;have g0:w7.cell? ⟨w.heap.size,0,none⟩=some (.int .i64 0):=by rw[aa B7];rfl
 have g1:w7.cell? ⟨w.heap.size,1,none⟩=some (.string ⟨#[]⟩):=by rw[aa B7];rfl
 have g2:w7.cell? ⟨w.heap.size,2,none⟩=some (.int .i64 0):=by rw[aa B7];rfl
 have g3:w7.cell? ⟨w.heap.size,3,none⟩=some (.int .i64 0):=by rw[aa B7];rfl
 have y7:=ae B7;have HSL:=(show Hid _ from o7.src);clear HRD BF HW m2 r7 s7 l7 u7 HKW kr
 cases bk
 ·have HE:Hid (da fs k=(L,ic)):=by show _=_;unfold da;rw[HAL.out,HBK.out,if_neg (by simp)]
  go_wp2_with (go_at_call 83;refine Calls.mono HBR.out ?_;rintro e w9 ⟨rfl,hw9⟩;rw[hw9];clear hw9);obtain⟨x0,x1,x2,x3⟩:=qq B7 (.int .i64 0) (.string ⟨#[]⟩) (.int .i64 0) (.int .i64 0);have KF:ab [w.heap.size] w7 ((((w7.setCell ⟨w.heap.size,0,none⟩ (.int .i64 0)).setCell ⟨w.heap.size,1,none⟩ (.string ⟨#[]⟩)).setCell ⟨w.heap.size,2,none⟩ (.int .i64 0)).setCell ⟨w.heap.size,3,none⟩ (.int .i64 0)):=((((ab.refl _ _).setCell (Or.inl (by simp)) _).setCell (Or.inl (by simp)) _).setCell (Or.inl (by simp)) _).setCell (Or.inl (by simp)) _;exact bodyPost_ret (v:=.tuple #[.slice h7.ao L.length h7.cap,.agg #[.int .i64 0,.string ⟨#[]⟩,.int .i64 0,.int .i64 0]]) (by simp[results,Tryz.results54,go_sem,x0,x1,x2,x3]) rfl ⟨h7.ao,h7.cap,by rw[HE.out];rfl,by rw[HE.out];exact jU.keptS HSL.out KF HFR.out,(((HK7.out.setCell (Or.inr (by simp)) _).setCell (Or.inr (by simp)) _).setCell (Or.inr (by simp)) _).setCell (Or.inr (by simp)) _⟩
 ·have hn:0<L.length:=by
   cases hL0:L with
   | nil=>rw[hL0]at HBK;cases HBK.out
   | cons _ _=>simp
  obtain⟨n,HNL⟩:∃n,Hid (L.length=n):=⟨_,rfl⟩
  have hlt:n-1<L.length:=by rw[<-HNL.out];omega
  rw[HNL.out]at hn hL HBR ⊢;obtain⟨gs,eg,hgs,c0,c1,c2,c3,c4⟩:=HSL.out.2 (n-1) L[n-1] (List.getElem?_eq_getElem hlt)
  have HE:Hid (da fs k=(L.dropLast,L[n-1])):=by
   show _=_
   unfold da;rw[HAL.out,HBK.out,if_pos rfl,List.getLast?_eq_getElem?,HNL.out,List.getElem?_eq_getElem hlt];rfl
  have HDL:Hid (L.dropLast.length=n-1):=by show _=_;rw[List.length_dropLast,HNL.out]
  have hcp:n<=h7.cap:=by have:=HSL.out.1;rw[HNL.out]at this;exact this
  generalize L[n-1]=t at *;obtain⟨ts,tr,tf,tl,tc⟩:=t;simp only at c0 c1 c2 c3 c4;have hwr:IntKind.i64.wrap ((n:Int)-1)=(n:Int)-1:=by rw[IntKind.wrap_i64];omega
  have htn:((n:Int)-1).toNat=n-1:=by omega
  have b1:(0:Int)<=(n:Int)-1:=by omega
  have b2:(n:Int)-1<(n:Int):=by omega
  have b3:(1:Int)<=(n:Int):=by omega
  have b4:(n:Int)-1<=(h7.cap:Int):=by omega
  have b5:(0:Int)<(n:Int):=by omega
  rw[eg]at HBR HSL HFR ⊢;obtain⟨W8,HW8⟩:∃W8,Hid (w7.alloc (.cells #[.string ts,.int .i64 tr,.string tf,.int .i64 tl,.int .i64 tc] 138)=W8):=⟨_,rfl⟩
  go_upto_region 7 with (go_at_call 83;refine Calls.mono HBR.out ?_;rintro e w9 ⟨rfl,hw9⟩;rw[hw9];clear hw9)
  rw[HW8.out];have k8:ab [] w7 W8:=by rw[<-HW8.out];exact(ab.refl [] _).alloc _
  have BX:W8.heap[w7.heap.size]?=some (.cells #[.string ts,.int .i64 tr,.string tf,.int .i64 tl,.int .i64 tc] 138 (0,0)):=by rw[<-HW8.out];exact heap_alloc_new _ _
  have B8:=k8.get B7 (by simp);have HS8:=(show Hid _ from jU.drop (jU.still HSL.out k8));have HK8:=(show Hid _ from HK7.out.trans k8);clear c0 c1 c2 c3 c4 f0 f1 f2 f3 g0 g1 g2 g3 HBR HW8 B7 k8 HK7 HSL;have p1:W8.cell? ⟨w7.heap.size,1,none⟩=some (.int .i64 tr):=by rw[aa BX];rfl
  have p2:W8.cell? ⟨w7.heap.size,2,none⟩=some (.string tf):=by rw[aa BX];rfl
  have p3:W8.cell? ⟨w7.heap.size,3,none⟩=some (.int .i64 tl):=by rw[aa BX];rfl
  have p4:W8.cell? ⟨w7.heap.size,4,none⟩=some (.int .i64 tc):=by rw[aa BX];rfl
  have f0:=ak B8 0;have f1:=ak B8 1;have f2:=ak B8 2;have f3:=ak B8 3;have g0:W8.cell? ⟨w.heap.size,0,none⟩=some (.int .i64 0):=by rw[aa B8];rfl
  have g1:W8.cell? ⟨w.heap.size,1,none⟩=some (.string ⟨#[]⟩):=by rw[aa B8];rfl
  have g2:W8.cell? ⟨w.heap.size,2,none⟩=some (.int .i64 0):=by rw[aa B8];rfl
  have g3:W8.cell? ⟨w.heap.size,3,none⟩=some (.int .i64 0):=by rw[aa B8];rfl
  have y8:=ae BX;have y9:=ae B8
  go_region
  go_wp2;obtain⟨x0,x1,x2,x3⟩:=qq B8 (.int .i64 tr) (.string tf) (.int .i64 tl) (.int .i64 tc);have KF:ab [w.heap.size] W8 ((((W8.setCell ⟨w.heap.size,0,none⟩ (.int .i64 tr)).setCell ⟨w.heap.size,1,none⟩ (.string tf)).setCell ⟨w.heap.size,2,none⟩ (.int .i64 tl)).setCell ⟨w.heap.size,3,none⟩ (.int .i64 tc)).drew:=(((((ab.refl _ _).setCell (Or.inl (by simp)) _).setCell (Or.inl (by simp)) _).setCell (Or.inl (by simp)) _).setCell (Or.inl (by simp)) _).drew;exact bodyPost_ret (v:=.tuple #[.slice (some ⟨gs,0,none⟩) (n-1) h7.cap,.agg #[.int .i64 tr,.string tf,.int .i64 tl,.int .i64 tc]]) (by simp[results,Tryz.results54,go_sem,x0,x1,x2,x3]) rfl ⟨some ⟨gs,0,none⟩,h7.cap,by rw[HE.out,HDL.out],by rw[HE.out];exact jU.keptS HS8.out KF HFR.out,((((HK8.out.setCell (Or.inr (by simp)) _).setCell (Or.inr (by simp)) _).setCell (Or.inr (by simp)) _).setCell (Or.inr (by simp)) _).drew⟩
structure Sm where
 a:Nat
 z:Nat
 h:Nat
 k:ByteArray
def zL(w:World)(ao:Option Addr)(cap:Nat)(S:List Sm):Prop:=S.length<=cap/\∀k s,S[k]?=some s->∃g,ao=some ⟨g,0,none⟩/\g<w.heap.size /\
  w.cell? ⟨g,k*4,none⟩=some (.int .i64 s.a)/\w.cell? ⟨g,k*4+1,none⟩=some (.int .i64 s.z)/\w.cell? ⟨g,k*4+2,none⟩=some (.int .i64 s.h)/\w.cell? ⟨g,k*4+3,none⟩=some (.string s.k)
theorem zL.still{w w':World}{ao:Option Addr}{cap:Nat}{S:List Sm}(h:zL w ao cap S)(k:ab [] w w'):zL w' ao cap S:=by
 refine⟨h.1,fun j t ht=>?_⟩;obtain⟨g,e,hg,c0,c1,c2,c3⟩:=h.2 j t ht;have q:∀o,w'.cell? ⟨g,o,none⟩=w.cell? ⟨g,o,none⟩:=fun o=>World.cell?_of_block (k.block g hg (by simp))
 exact⟨g,e,Nat.lt_of_lt_of_le hg k.size,by rw[q];exact c0,by rw[q];exact c1,by rw[q];exact c2,by rw[q];exact c3⟩
structure fa(w:World)(b:Nat)(T:List Tk)(aoT:Option Addr)(cT:Nat)(S:List Sm)(aoS:Option Addr)(cS:Nat):Prop where
 d:w.heap[b]?=some (.cells #[.slice aoT T.length cT,.slice aoS S.length cS] 141 (0,0))
 t:jU w aoT cT T
 s:zL w aoS cS S
theorem fa.still{w w':World}{b:Nat}{T:List Tk}{aoT:Option Addr}{cT:Nat}{S:List Sm}{aoS:Option Addr}{cS:Nat}(h:fa w b T aoT cT S aoS cS)(k:ab [] w w'):fa w' b T aoT cT S aoS cS :=
 ⟨k.get h.d (by simp),h.t.still k,h.s.still k⟩
theorem fa.cells{w:World}{b:Nat}{T:List Tk}{aoT:Option Addr}{cT:Nat}{S:List Sm}{aoS:Option Addr}{cS:Nat}(h:fa w b T aoT cT S aoS cS):w.cell? ⟨b,0,none⟩=some (.slice aoT T.length cT)/\w.cell? ⟨b,1,none⟩=some (.slice aoS S.length cS)/\b<w.heap.size :=
 ⟨by rw[aa h.d];rfl,by rw[aa h.d];rfl,ae h.d⟩
def aE(k:ByteArray):Bool:=(k.toList == [36,97])||(k.toList == [36,112])
def aH(k:ByteArray):Bool:=(k.toList == [36,102])||(k.toList == [36,101])
theorem fc(s:ByteArray)(w:World) :
  Calls Tryz.prog 122 #[.string s] w fun e w'=>e=.returned (.bool (aE s))/\w'=w:=by
 go_enter Tryz.func122,Tryz.ntmps122;go_wp2
 all_goals go_ret
 all_goals (refine⟨?_,rfl⟩;simp[aE, *])
theorem kl(s:ByteArray)(w:World) :
  Calls Tryz.prog 123 #[.string s] w fun e w'=>e=.returned (.bool (aH s))/\w'=w:=by
 go_enter Tryz.func123,Tryz.ntmps123;go_wp2
 all_goals go_ret
 all_goals (refine⟨?_,rfl⟩;simp[aH, *])
def ii(w:World)(ao:Option Addr)(L:List ByteArray):Prop:=∀k x,L[k]?=some x->∃g,ao=some ⟨g,0,none⟩/\g<w.heap.size/\w.cell? ⟨g,k,none⟩=some (.string x)
theorem aA.srcX{w:World}{h:Hd}{L:List ByteArray}(o:aA w h (aD L)):ii w h.ao L:=by
 intro k x hk
 rcases o.ways with ⟨_,h0,_⟩ | ⟨g,cur,e1,e2,e3,-⟩
 ·have h0:L.length=0:=h0
  have:=(List.getElem?_eq_some_iff.1 hk).1;omega
 ·exact⟨g,e1,ae e2,o.cell e1 k (.string x) (by simp[aD,dN,hk])⟩
theorem IG(L:List ByteArray)(x:ByteArray)(k:Nat)(hk:k<L.length)(h:(L[k].toList==x.toList)=true):aI L x=true:=by
 unfold aI;exact List.any_eq_true.2 ⟨L[k],List.getElem_mem hk,h⟩
theorem I6(L:List ByteArray)(x:ByteArray)(h:∀k (hk:k<L.length),(L[k].toList==x.toList)=false):aI L x=false:=by
 unfold aI;rw[List.any_eq_false];intro y hy;obtain⟨k,hk,e⟩:=List.getElem_of_mem hy;have:=h k hk;rw[e]at this;rw[this];simp
theorem je(L:List ByteArray)(ao:Option Addr)(c:Nat)(x:ByteArray)(w:World)(h1:ii w ao L)(hL:L.length<=1000000000) :
  Calls Tryz.prog 93 #[.slice ao L.length c,.string x] w fun e w'=>e=.returned (.bool (aI L x))/\w'=w:=by
 have H1:=(show Hid _ from h1);clear h1;go_enter Tryz.func93,Tryz.ntmps93;go_wp2
 go_loopg [5] L.length (fun g i wr=>∃k:Nat,k<=L.length/\g=L.length-k/\i=.int .i64 k/\Hid (∀j (hj:j<L.length),j<k->(L[j].toList==x.toList)=false)/\wr=w)
 case atStart=>exact⟨0,by omega,by omega,rfl,(fun j _ h=>by omega),rfl⟩
 case round =>
  obtain⟨k,hk,hg,rfl,HN,rfl⟩:=hrel
  by_cases hlt:k<L.length
  ·obtain⟨gs,rfl,hgs,q0⟩:=H1.out k L[k] (List.getElem?_eq_getElem hlt)
   have hki:(k:Int)<(L.length:Int):=by omega
   have HY:Hid ((L[k].toList==x.toList)=true->aI L x=true):=IG L x k hlt
   have HO:Hid ((L[k].toList==x.toList)=false->∀j (hj:j<L.length),j<k+1->(L[j].toList==x.toList)=false):=fun h j hj h2=>by
    by_cases e:j=k
    ·subst e;exact h
    ·exact HN.out j hj (by omega)
   generalize L[k]=y at *
   cases hb:(y.toList==x.toList)
   ·have HM:Hid (∀j (hj:j<L.length),j<k+1->(L[j].toList==x.toList)=false):=HO.out hb
    go_wp2
    go_roundg (L.length-(k+1))
    case measure=>omega
    case rel=>exact⟨k+1,by omega,rfl,by go_num,HM,rfl⟩
   ·have HM:Hid (aI L x=true):=HY.out hb
    go_wp2;go_ret;exact⟨aB HM.out.symm,rfl⟩
  ·have HM:Hid (aI L x=false):=I6 L x (fun j hj=>HN.out j hj (by omega))
   go_wp2;go_ret;exact⟨aB HM.out.symm,rfl⟩
def tS(T:List Tk)(i:Nat):ByteArray:=(T.getD i ic).s
theorem fZ(T:List Tk)(i:Nat)(h:i<T.length):T[i]?=some (T.getD i ic):=by
 rw[List.getD_eq_getElem?_getD,List.getElem?_eq_getElem h];rfl
def dZ(T:List Tk)(b:Nat):ByteArray×Nat:=if(fX (tS T b) ⟨#[36]⟩||decide (T.length<=b+1))=true then(tS T b,b+1) else(tS T (b+1),b+2)
set_option maxRecDepth 100000 in
theorem CQ(b k:Nat)(T:List Tk)(aoT:Option Addr)(cT:Nat)(S:List Sm)(aoS:Option Addr)(cS:Nat)(w:World)(hD:fa w b T aoT cT S aoS cS)(hk:k<T.length)(hT:T.length<=100000)(hs:∀i,(tS T i).size<=1073741824) :
  Calls Tryz.prog 85 #[.pointer (some ⟨b,0,none⟩),.int .i64 k] w fun e w'=>e=.returned (.tuple #[.string (dZ T k).1,.int .i64 ((dZ T k).2:Nat)])/\w'=w:=by
 obtain⟨c0,-,hb⟩:=hD.cells;obtain⟨gT,rfl,hgT,q0,-⟩:=hD.t.2 k _ (fZ T k hk);replace q0:w.cell? ⟨gT,k*5,none⟩=some (.string (tS T k)):=q0;have hki:(k:Int)<(T.length:Int):=by omega
 have hs0:=hs k;have hc1:((k+1:Nat):Int)=(k:Int)+1:=by omega
 have hc2:((k+2:Nat):Int)=(k:Int)+2:=by omega
 obtain⟨x,Hx⟩:∃x,Hid (tS T k=x):=⟨_,rfl⟩
 rw[Hx.out]at q0 hs0;obtain⟨n,Hn⟩:∃n,Hid (T.length=n):=⟨_,rfl⟩
 rw[Hn.out]at c0 hki hT
 cases h1:fX x ⟨#[36]⟩
 ·by_cases h2:n<=k+1
  ·have HE:Hid (dZ T k=(x,k+1)):=by show _=_;unfold dZ;rw[Hx.out,h1,Hn.out,if_pos (by simp;omega)]
   have h2i:(n:Int)<=(k:Int)+1:=by omega
   go_enter Tryz.func85,Tryz.ntmps85;go_wp2_with (go_at_call 120;refine(eL x _ _ (by omega) (by show 1<=_;omega)).mono ?_;rintro e w1 ⟨rfl,hw1⟩;rw[hw1];clear hw1);go_ret2;exact⟨by rw[HE.out];show _=Ending.returned (.tuple #[.string x,.int .i64 ((k+1:Nat):Int)]);rw[hc1];rfl,rfl⟩
  ·have HE:Hid (dZ T k=(tS T (k+1),k+2)):=by show _=_;unfold dZ;rw[Hx.out,h1,Hn.out,if_neg (by simp;omega)]
   have h2i:¬(n:Int)<=(k:Int)+1:=by omega
   have h2j:(k:Int)+1<(n:Int):=by omega
   obtain⟨gT2,e2,-,q1,-⟩:=hD.t.2 (k+1) _ (fZ T (k+1) (by rw[Hn.out];omega))
   cases e2
   replace q1:w.cell? ⟨gT,(k+1)*5,none⟩=some (.string (tS T (k+1))):=q1;generalize tS T (k+1)=y at *;go_enter Tryz.func85,Tryz.ntmps85;go_wp2_with (go_at_call 120;refine(eL x _ _ (by omega) (by show 1<=_;omega)).mono ?_;rintro e w1 ⟨rfl,hw1⟩;rw[hw1];clear hw1);go_ret2;exact⟨by rw[HE.out];show _=Ending.returned (.tuple #[.string y,.int .i64 ((k+2:Nat):Int)]);rw[hc2];rfl,rfl⟩
 ·have HE:Hid (dZ T k=(x,k+1)):=by show _=_;unfold dZ;rw[Hx.out,h1,if_pos (by simp)]
  go_enter Tryz.func85,Tryz.ntmps85;go_wp2_with (go_at_call 120;refine(eL x _ _ (by omega) (by show 1<=_;omega)).mono ?_;rintro e w1 ⟨rfl,hw1⟩;rw[hw1];clear hw1);go_ret2;exact⟨by rw[HE.out];show _=Ending.returned (.tuple #[.string x,.int .i64 ((k+1:Nat):Int)]);rw[hc1];rfl,rfl⟩
end Go.Proofs.YtpddjjabfbfifaaGreat

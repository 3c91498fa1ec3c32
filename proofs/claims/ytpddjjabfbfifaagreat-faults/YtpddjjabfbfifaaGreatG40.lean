import Derived.Test.YtpddjjabfbfifaaGreatG38
import Derived.Test.YtpddjjabfbfifaaGreatG39
namespace Go.Proofs.YtpddjjabfbfifaaGreat
open Go.RowKit
set_option maxHeartbeats 40000000
theorem Bm(rec:Nat->List Bool->List Tk->List Tk×List Bool)(hrec:∀k sn out,sn[k]?=some false->(rec k sn out).1.length+2000*aO (rec k sn out).2<=out.length+2000*aO sn)(fs:Fs)(n:Nat):∀L,L.length<=n->∀sn out,(b9 rec fs L sn out).1.length+2000*aO (b9 rec fs L sn out).2<=out.length+L.length+2000*aO sn:=by
 induction n with
 | zero =>
  intro L hl sn out
  cases L with
  | nil=>rw[b9];simp
  | cons _ _=>simp at hl
 | succ n ih =>
  intro L hl sn out
  cases L with
  | nil=>rw[b9];simp
  | cons t r =>
   have hl1:r.length<=n:=by simpa using hl
   rw[b9.eq_def];simp only[List.length_cons]
   split
   ·split
    ·simp only;omega
    ·simp only[List.length_append,List.length_cons,List.length_nil];omega
   ·split
    ·have:=ih r hl1 sn (out++[t])
     rw[List.length_append,List.length_cons,List.length_nil]at this;omega
    ·split
     ·simp only[List.length_append,List.length_cons,List.length_nil];omega
     ·cases r with
      | nil=>simp only;omega
      | cons a r =>
       cases r with
       | nil=>simp only[List.length_append,List.length_cons,List.length_nil];omega
       | cons b r =>
        have hl2:r.length<=n:=by simp at hl1;omega
        simp only[List.length_cons]
        split
        ·simp only[List.length_append,List.length_cons,List.length_nil];omega
        ·split
         ·simp only[List.length_append,List.length_cons,List.length_nil];omega
         ·split
          ·have:=ih r hl2 sn out
           omega
          ·next hs =>
           have hs':sn[(bu fs a.s).toNat]?=some false:=by
            rw[List.getD_eq_getElem?_getD]at hs
            cases e:sn[(bu fs a.s).toNat]? with
            | none=>rw[e]at hs;exact absurd rfl hs
            | some x=>rw[e]at hs;cases x;rfl;exact absurd rfl hs
           have h1:=hrec (bu fs a.s).toNat sn out hs'
           split
           ·omega
           ·have:=ih r hl2 (rec (bu fs a.s).toNat sn out).2 (rec (bu fs a.s).toNat sn out).1
            omega
theorem Bo(fs:Fs)(hfd:∀k,(aj fs k).size<=1024)(n:Nat):∀k sn out,sn[k]?=some false->(dy fs n k sn out).1.length+2000*aO (dy fs n k sn out).2<=out.length+2000*aO sn:=by
 induction n with
 | zero=>intro k sn out _;rw[dy];simp
 | succ n ih =>
  intro k sn out hk;rw[dy];have h1:=Bm (dy fs n) ih fs _ (oP fs k) (Nat.le_refl _) (sn.set k true) out;have h2:=zP fs k;have h3:=j6 sn k hk;have h4:=hfd k;omega
theorem DC(fs:Fs)(k:Nat)(hfl:fs.length<=4)(hfd:∀k,(aj fs k).size<=1024)(hk:k<fs.length):(da fs k).1.length<=10000:=by
 have h:=Bo fs hfd fs.length k (List.replicate fs.length false) [] (by rw[List.getElem?_replicate,if_pos hk]);rw[lx]at h;have h2:(nr fs k).length<=10000:=by unfold nr;simp at h;omega
 unfold da
 split
 ·rw[List.length_dropLast];omega
 ·exact h2
def LK(fs:Fs)(v:Nat)(h:Hd)(f:oG)(c:Int)(w:World)(e:Ending)(w':World):Prop :=
 e=.returned (.tuple #[gu f,.int .i64 c])/\cW w' v h fs/\ab [v] w w'
theorem fI.keptV{w w':World}{v:Nat}{fs:Fs}{h:Hd}{on on':Bool}{p2 p3 p4 q2 q3 q4:Value}(a:fI w v fs h on p2 p3 p4)(k:ab [v] w w')(hd:w'.heap[v]?=some (.cells #[.slice h.ao fs.length h.cap,.bool on',q2,q3,q4] 85 (0,0))):fI w' v fs h on' q2 q3 q4 :=
 ⟨hd,a.own.moved (fun q hq=>k.block q (a.own.lt hq) (by simp;intro e;rw[e]at hq;exact a.far hq)),a.far,a.le⟩
theorem tJ{fs:Fs}(h:∀j,j<fs.length->(aj fs j).size<=1024)(k:Nat):(aj fs k).size<=1024:=by
 by_cases hk:k<fs.length
 ·exact h k hk
 ·unfold aj;rw[List.getD_eq_getElem?_getD,List.getElem?_eq_none (by omega)];show(0:Nat)<=1024;omega
theorem fI.aside{w:World}{v B:Nat}{fs:Fs}{h:Hd}{on:Bool}{p2 p3 p4:Value}(a:fI w v fs h on p2 p3 p4)(hv:v≠B)(hh:∀q,h.blk=some q->q≠B)(i:Nat)(u:Value):fI (w.setCell ⟨B,i,none⟩ u) v fs h on p2 p3 p4 :=
 ⟨((ab.refl [B] w).setCell (Or.inl (by simp)) _).get a.d (by simp;exact hv),a.own.aside hh i u,a.far,a.le⟩
theorem sF{w F:World}{B v:Nat}{fs:Fs}{h:Hd}{on:Bool}{p2 p3 p4 a0 a1 a2 a3 u0 u1 u2 u3:Value}(hB:F.heap[B]?=some (.cells #[a0,a1,a2,a3] 87 (0,0)))(hR:fI F v fs h on p2 p3 p4)(hv:v<B)(hh:∀q,h.blk=some q->q<B)(hK:ab [v] w F)(hw:w.heap.size<=B) :
  ((((F.setCell ⟨B,0,none⟩ u0).setCell ⟨B,1,none⟩ u1).setCell ⟨B,2,none⟩ u2).setCell ⟨B,3,none⟩ u3).heap[B]?=some (.cells #[u0,u1,u2,u3] 87 (0,0))/\cW ((((F.setCell ⟨B,0,none⟩ u0).setCell ⟨B,1,none⟩ u1).setCell ⟨B,2,none⟩ u2).setCell ⟨B,3,none⟩ u3) v h fs/\ab [v] w ((((F.setCell ⟨B,0,none⟩ u0).setCell ⟨B,1,none⟩ u1).setCell ⟨B,2,none⟩ u2).setCell ⟨B,3,none⟩ u3):=by
 refine⟨ah (ah (ah (ah hB 0 u0) 1 u1) 2 u2) 3 u3,⟨on,p2,p3,p4,?_⟩,(((hK.setCell (Or.inr hw) _).setCell (Or.inr hw) _).setCell (Or.inr hw) _).setCell (Or.inr hw) _⟩;have hh':∀q,h.blk=some q->q≠B:=fun q hq=>by have:=hh q hq;omega
 exact(((hR.aside (by omega) hh' _ _).aside (by omega) hh' _ _).aside (by omega) hh' _ _).aside (by omega) hh' _ _
theorem lh{w:World}{B:Nat}{a0 a1 a2 a3:Value}(h:w.heap[B]?=some (.cells #[a0,a1,a2,a3] 87 (0,0))) :
  (w.cell? ⟨B,0,none⟩=some a0/\w.cell? ⟨B,1,none⟩=some a1/\w.cell? ⟨B,2,none⟩=some a2/\w.cell? ⟨B,3,none⟩=some a3)/\(w.frozen? ⟨B,0,none⟩=false/\w.frozen? ⟨B,1,none⟩=false/\w.frozen? ⟨B,2,none⟩=false/\w.frozen? ⟨B,3,none⟩=false)/\B<w.heap.size:=by
 refine⟨⟨?_,?_,?_,?_⟩,⟨ak h 0,ak h 1,ak h 2,ak h 3⟩,ae h⟩
 all_goals (rw[aa h];rfl)
theorem tG(fs:Fs)(k:Nat)(hfl:fs.length<=4)(hsz:∀j,j<fs.length->(aj fs j).size<=1024)(hk:k<fs.length)(h1:((vI (da fs k).1 (LS (da fs k).1)).rule==0)=true)(h2:((da fs k).2.rule==0)=true):gq fs k=cJ/\∀q,q<(da fs k).1.length->aZ (da fs k).1 (LS (da fs k).1) q=0:=by
 obtain⟨e,g⟩:=yC fs k hfl hsz hk
 have hr:(gq fs k).1=0:=by
  unfold gq;rw[if_neg (by rw[h1];simp)];exact eq_of_beq h2
 refine⟨?_,(g (by rw[e,hr];rfl)).1.u⟩
 have e2:(da fs k).2=ic:=by
  unfold da at h2 ⊢
  split
  ·next hb =>
   rw[if_pos hb]at h2;unfold dJ at hb
   cases hL:(nr fs k).getLast? with
   | none=>rw[hL]at hb;cases hb
   | some t =>
    rw[hL]at hb h2;simp only[Option.getD_some]at h2;simp only at hb;rw[h2]at hb
    cases hb
  ·rfl
 unfold gq;rw[if_neg (by rw[h1];simp),e2];rfl
set_option maxRecDepth 100000 in
theorem vt(v:Nat)(fs:Fs)(h:Hd)(on:Bool)(p2 p3 p4:Value)(n:ByteArray)(w:World)(hR:fI w v fs h on p2 p3 p4)(hf:bu fs n<0) :
  Calls Tryz.prog 37 #[.pointer (some ⟨v,0,none⟩),.string n] w fun e w'=>LK fs v h cJ 5 w e w':=by
 obtain⟨W,HW⟩:∃W,Hid (w.alloc (.cells #[.int .i64 0,.string ⟨#[]⟩,.int .i64 0,.int .i64 0] 87)=W):=⟨_,rfl⟩
 have HKW:Hid (ab [] w W):=by show ab [] w W;rw[<-HW.out];exact(ab.refl [] _).alloc _
 have BF:Hid (W.heap[w.heap.size]?=some (.cells #[.int .i64 0,.string ⟨#[]⟩,.int .i64 0,.int .i64 0] 87 (0,0))):=by show _=_;rw[<-HW.out];exact heap_alloc_new _ _
 have HRW:=(show Hid _ from hR.still HKW.out);have HFI:=(show Hid _ from kT fs h.ao h.cap n W (by have:=hR.le;omega) HRW.out.own.srcFi);have v0:W.cell? ⟨v,0,none⟩=some (.slice h.ao fs.length h.cap):=by rw[aa HRW.out.d];rfl
 have vz:=ae HRW.out.d;obtain⟨⟨g0,g1,g2,g3⟩,⟨f0,f1,f2,f3⟩,wz⟩:=lh BF.out;have HVZ:Hid (v<w.heap.size/\∀q,h.blk=some q->q<w.heap.size):=⟨ae hR.d,fun q hq=>hR.own.lt hq⟩;clear hR;go_enter Tryz.func37,Tryz.ntmps37
 go_upto_region 1 with fail
 rw[HW.out];go_wp2_with (go_at_call 35;refine Calls.mono HFI.out ?_;rintro e w9 ⟨rfl,hw9⟩;rw[hw9];clear hw9);obtain⟨B1,R1,K1⟩:=sF (u0:=.int .i64 0) (u1:=.string ⟨#[]⟩) (u2:=.int .i64 0) (u3:=.int .i64 0) BF.out HRW.out HVZ.out.1 HVZ.out.2 (mF HKW.out) (Nat.le_refl _);obtain⟨⟨c0,c1,c2,c3⟩,-,-⟩:=lh B1;exact bodyPost_ret (v:=.tuple #[.agg #[.int .i64 0,.string ⟨#[]⟩,.int .i64 0,.int .i64 0],.int .i64 5]) (by simp[results,Tryz.results37,go_sem,c0,c1,c2,c3]) rfl ⟨rfl,R1,K1⟩
set_option maxRecDepth 100000 in
theorem xO(v k:Nat)(fs:Fs)(h:Hd)(on:Bool)(p2 p3 p4:Value)(n:ByteArray)(w:World)(hR:fI w v fs h on p2 p3 p4)(hf:bu fs n=(k:Int))(hk:k<fs.length)(hsz:∀j,j<fs.length->(aj fs j).size<=1024) :
  Calls Tryz.prog 37 #[.pointer (some ⟨v,0,none⟩),.string n] w fun e w'=>LK fs v h (gq fs k) (if((gq fs k).1==0)=true then 0 else 6) w e w':=by
 have hle:=hR.le;obtain⟨hao,hcap⟩:=h;obtain⟨gf,egf,hgf,-⟩:=hR.own.srcFi.2 k hk;replace egf:hao=some ⟨gf,0,none⟩:=egf;subst egf;obtain⟨W,HW⟩:∃W,Hid (w.alloc (.cells #[.int .i64 0,.string ⟨#[]⟩,.int .i64 0,.int .i64 0] 87)=W):=⟨_,rfl⟩
 have HKW:Hid (ab [] w W):=by show ab [] w W;rw[<-HW.out];exact(ab.refl [] _).alloc _
 have BF:Hid (W.heap[w.heap.size]?=some (.cells #[.int .i64 0,.string ⟨#[]⟩,.int .i64 0,.int .i64 0] 87 (0,0))):=by show _=_;rw[<-HW.out];exact heap_alloc_new _ _
 have HRW:=(show Hid _ from hR.still HKW.out);have HFI:=(show Hid _ from kT fs (some ⟨gf,0,none⟩) hcap n W (by omega) HRW.out.own.srcFi);rw[hf]at HFI;have v0:W.cell? ⟨v,0,none⟩=some (.slice (some ⟨gf,0,none⟩) fs.length hcap):=by rw[aa HRW.out.d];rfl
 have v1:W.cell? ⟨v,1,none⟩=some (.bool on):=by rw[aa HRW.out.d];rfl
 have e1:=ak HRW.out.d 1;have vz:=ae HRW.out.d;have HVZ:Hid (v<w.heap.size/\∀q,(⟨some ⟨gf,0,none⟩,hcap⟩:Hd).blk=some q->q<w.heap.size):=⟨ae hR.d,fun q hq=>hR.own.lt hq⟩;obtain⟨W1,HW1⟩:∃W1,Hid (W.setCell ⟨v,1,none⟩ (.bool false)=W1):=⟨_,rfl⟩
 have HR1:Hid (fI W1 v fs ⟨some ⟨gf,0,none⟩,hcap⟩ false p2 p3 p4):=by show fI _ _ _ _ _ _ _ _;rw[<-HW1.out];exact HRW.out.off
 have HK1:Hid (ab [v] w W1):=by show ab _ _ _;rw[<-HW1.out];exact(mF HKW.out).setCell (Or.inl (by simp)) _
 have BF1:Hid (W1.heap[w.heap.size]?=some (.cells #[.int .i64 0,.string ⟨#[]⟩,.int .i64 0,.int .i64 0] 87 (0,0))):=by
  show _=_
  rw[<-HW1.out];exact((ab.refl [v] _).setCell (Or.inl (by simp)) _).get BF.out (by have:=HVZ.out.1;simp;omega)
 have HFL:=(show Hid _ from DD fs gf hcap k W1 hle (tJ hsz) hk HR1.out.own.srcFi (HR1.out.own.lt rfl));have v01:W1.cell? ⟨v,0,none⟩=some (.slice (some ⟨gf,0,none⟩) fs.length hcap):=by rw[aa HR1.out.d];rfl
 have vz1:=ae HR1.out.d;have HTF:=(show Hid _ from Gj fs k (tJ hsz));have HTL:=(show Hid _ from DC fs k hle (tJ hsz) hk);have HF0:=(show Hid _ from tG fs k hle hsz hk);have HFR:Hid (gq fs k=if((vI (da fs k).1 (LS (da fs k).1)).rule==0)=false then Gm (vI (da fs k).1 (LS (da fs k).1)) else Gm (da fs k).2):=rfl;obtain⟨f,Hf⟩:∃f,Hid (gq fs k=f):=⟨_,rfl⟩
 rw[Hf.out]at HFR HF0 ⊢;obtain⟨cc,Hcc⟩:∃cc,Hid ((if(f.1==0)=true then(0:Int) else 6)=cc):=⟨_,rfl⟩
 rw[Hcc.out];obtain⟨⟨T,t⟩,HTt⟩:∃Tt,Hid (da fs k=Tt):=⟨_,rfl⟩
 rw[HTt.out]at HFL HTF HTL HF0 HFR;simp only at HFL HTF HTL HF0 HFR;obtain⟨u,Hu⟩:∃u,Hid (vI T (LS T)=u):=⟨_,rfl⟩
 rw[Hu.out]at HF0 HFR;have hkn:¬(k:Int)<0:=by omega
 have HSZ:Hid (∀i,(tS T i).size<=1073741824):=fun i=>by
  unfold tS;rw[List.getD_eq_getElem?_getD]
  cases e:T[i]? with
  | none=>show(0:Nat)<=_;omega
  | some t=>have:=(HTF.out t (List.mem_of_getElem? e)).1;show t.s.size<=_;omega
 clear hR hgf hf;go_enter Tryz.func37,Tryz.ntmps37
 go_upto_region 1 with fail
 rw[HW.out]
 go_upto_region 5 with (go_at_call 35;refine Calls.mono HFI.out ?_;rintro e w9 ⟨rfl,hw9⟩;rw[hw9];clear hw9)
 rw[HW1.out];clear v0 v1 e1 vz;obtain⟨ts,tr,tf,tl,tc⟩:=t;obtain⟨us,ur,uf,ul,uc⟩:=u;simp only at HFL
 go_upto_region 6 with (go_at_call 54;refine Calls.mono HFL.out ?_;rintro e w7 ⟨aT,cT,rfl,sT,k7⟩)
 obtain⟨W8,HW8⟩:∃W8,Hid (w7.alloc (.cells #[.int .i64 tr,.string tf,.int .i64 tl,.int .i64 tc] 87)=W8):=⟨_,rfl⟩
 have HK8:Hid (ab [] W1 W8):=by show ab _ _ _;rw[<-HW8.out];exact k7.alloc _
 have HB8:Hid (W8.heap[w7.heap.size]?=some (.cells #[.int .i64 tr,.string tf,.int .i64 tl,.int .i64 tc] 87 (0,0))):=by show _=_;rw[<-HW8.out];exact heap_alloc_new _ _
 have HND:=(show Hid _ from GG T aT cT W8 (jN.still sT (by rw[<-HW8.out];exact(ab.refl [] _).alloc _)) (by have:=HTL.out;omega) HSZ.out);rw[HW8.out];clear sT k7 v01 vz1
 go_upto_region 7 with (go_at_call 55;refine Calls.mono HND.out ?_;rintro e w9 ⟨rfl,aS,cS,d9,k9⟩)
 have HFF:=(show Hid _ from tL W8.heap.size T aT cT (LS T) aS cS w9 d9 (by have:=HTL.out;omega) (JY T (by have:=HTL.out;omega)) HSZ.out);rw[Hu.out]at HFF;simp only at HFF;have HK9:=(show Hid _ from HK8.out.trans k9);have HB9:=(show Hid _ from k9.get HB8.out (by simp));have HD9:=(show Hid _ from d9);clear d9 k9
 go_upto_region 8 with (go_at_call 56;refine Calls.mono HFF.out ?_;rintro e w10 ⟨rfl,k10⟩)
 obtain⟨W11,HW11⟩:∃W11,Hid (w10.alloc (.cells #[.int .i64 ur,.string uf,.int .i64 ul,.int .i64 uc] 87)=W11):=⟨_,rfl⟩
 have HB11:Hid (W11.heap[w10.heap.size]?=some (.cells #[.int .i64 ur,.string uf,.int .i64 ul,.int .i64 uc] 87 (0,0))):=by show _=_;rw[<-HW11.out];exact heap_alloc_new _ _
 have HK9':Hid (ab [] w9 W11):=by show ab _ _ _;rw[<-HW11.out];exact k10.alloc _
 have HK11:=(show Hid _ from HK9.out.trans HK9'.out);have HD11:=(show Hid _ from eW.still HD9.out HK9'.out);have HBt:=(show Hid _ from HK9'.out.get HB9.out (by simp));have HR11:=(show Hid _ from HR1.out.still HK11.out);have HBR:=(show Hid _ from HK11.out.get BF1.out (by simp));have HKA:=(show Hid _ from HK1.out.trans (mF HK11.out));rw[HW11.out];clear k10;obtain⟨⟨u0,u1,u2,u3⟩,-,uz⟩:=lh HB11.out;obtain⟨⟨t0,t1,t2,t3⟩,-,tz⟩:=lh HBt.out;obtain⟨⟨g0,g1,g2,g3⟩,⟨f0,f1,f2,f3⟩,wz⟩:=lh HBR.out
 cases hu:(ur==0)
 ·have HX:Hid (f=(ur,⟨uf,ul,uc⟩)):=by show _=_;rw[HFR.out];exact if_pos hu
  have HC:Hid (cc=6):=by show _=_;rw[<-Hcc.out,HX.out];exact if_neg (fun q=>by have q':(ur==0)=true:=q;rw[hu]at q';cases q')
  go_wp2;obtain⟨B1,R1,K1⟩:=sF (u0:=.int .i64 ur) (u1:=.string uf) (u2:=.int .i64 ul) (u3:=.int .i64 uc) HBR.out HR11.out HVZ.out.1 HVZ.out.2 HKA.out (Nat.le_refl _);obtain⟨⟨c0,c1,c2,c3⟩,-,-⟩:=lh B1;exact bodyPost_ret (v:=.tuple #[.agg #[.int .i64 ur,.string uf,.int .i64 ul,.int .i64 uc],.int .i64 6]) (by simp[results,Tryz.results37,go_sem,c0,c1,c2,c3]) rfl (by rw[HC.out,HX.out];exact⟨rfl,R1,K1⟩)
 ·cases ht:(tr==0)
  ·have HX:Hid (f=(tr,⟨tf,tl,tc⟩)):=by show _=_;rw[HFR.out];exact if_neg (fun q=>by have q':(ur==0)=false:=q;rw[hu]at q';cases q')
   have HC:Hid (cc=6):=by show _=_;rw[<-Hcc.out,HX.out];exact if_neg (fun q=>by have q':(tr==0)=true:=q;rw[ht]at q';cases q')
   go_wp2;obtain⟨B1,R1,K1⟩:=sF (u0:=.int .i64 tr) (u1:=.string tf) (u2:=.int .i64 tl) (u3:=.int .i64 tc) HBR.out HR11.out HVZ.out.1 HVZ.out.2 HKA.out (Nat.le_refl _);obtain⟨⟨c0,c1,c2,c3⟩,-,-⟩:=lh B1;exact bodyPost_ret (v:=.tuple #[.agg #[.int .i64 tr,.string tf,.int .i64 tl,.int .i64 tc],.int .i64 6]) (by simp[results,Tryz.results37,go_sem,c0,c1,c2,c3]) rfl (by rw[HC.out,HX.out];exact⟨rfl,R1,K1⟩)
  ·obtain⟨hf0,hall⟩:=HF0.out hu ht
   have HALL:=(show Hid _ from hall);have HX:=(show Hid _ from hf0);have HC:Hid (cc=0):=by show _=_;rw[<-Hcc.out,HX.out];rfl
   clear hf0 hall;have x2:W11.cell? ⟨v,2,none⟩=some p2:=by rw[aa HR11.out.d];rfl
   have y2:=ak HR11.out.d 2;have vz:=ae HR11.out.d;have d12:=ah HR11.out.d 2 (.pointer (some ⟨W8.heap.size,0,none⟩));obtain⟨W12,HW12⟩:∃W12,Hid (W11.setCell ⟨v,2,none⟩ (.pointer (some ⟨W8.heap.size,0,none⟩))=W12):=⟨_,rfl⟩
   rw[HW12.out]at d12;have HK12:Hid (ab [v] W11 W12):=by show ab _ _ _;rw[<-HW12.out];exact(ab.refl [v] _).setCell (Or.inl (by simp)) _
   have HD12:=(show Hid _ from eW.off HD11.out HR11.out.d HK12.out);have HB12:=(show Hid _ from HK12.out.get HBR.out (by have:=HVZ.out.1;simp;omega));have HR12:=(show Hid _ from fI.keptV (on':=false) HR11.out HK12.out d12);have HJG:=(show Hid _ from AS v W8.heap.size T aT cT aS cS _ _ _ _ _ _ W12 d12 HD12.out HTL.out HTF.out HALL.out);clear d12
   go_upto_region 13 with fail
   rw[HW12.out];clear x2 y2 vz u0 u1 u2 u3 uz t0 t1 t2 t3 tz g0 g1 g2 g3 f0 f1 f2 f3 wz
   go_upto_region 14 with (go_at_call 57;refine Calls.mono HJG.out ?_;rintro e w13 ⟨PS,j1,j2,RS,rfl,-,-,jw⟩)
   have HB13:=(show Hid _ from jw.kept.get HB12.out (by have:=HVZ.out.1;simp;omega));have d13:=jw.d;have K13:=jw.kept;have HR13:=(show Hid _ from fI.keptV (on':=false) HR12.out K13 d13);have HKB:=(show Hid _ from(HKA.out.trans HK12.out).trans K13);have x1:w13.cell? ⟨v,1,none⟩=some (.bool false):=by rw[aa d13];rfl
   have y1:=ak d13 1;have vz:=ae d13;have d14:=ah d13 1 (.bool true);obtain⟨W14,HW14⟩:∃W14,Hid (w13.setCell ⟨v,1,none⟩ (.bool true)=W14):=⟨_,rfl⟩
   rw[HW14.out]at d14;have HK14:Hid (ab [v] w13 W14):=by show ab _ _ _;rw[<-HW14.out];exact(ab.refl [v] _).setCell (Or.inl (by simp)) _
   have HR14:=(show Hid _ from fI.keptV (on':=true) HR13.out HK14.out d14);have HB14:=(show Hid _ from HK14.out.get HB13.out (by have:=HVZ.out.1;simp;omega));have HKC:=(show Hid _ from HKB.out.trans HK14.out);clear jw d13 K13 d14
   go_upto_region 15 with fail
   rw[HW14.out];clear x1 y1 vz;obtain⟨⟨g0,g1,g2,g3⟩,⟨f0,f1,f2,f3⟩,wz⟩:=lh HB14.out;go_wp2;obtain⟨B1,R1,K1⟩:=sF (u0:=.int .i64 0) (u1:=.string ⟨#[]⟩) (u2:=.int .i64 0) (u3:=.int .i64 0) HB14.out HR14.out HVZ.out.1 HVZ.out.2 HKC.out (Nat.le_refl _);obtain⟨⟨c0,c1,c2,c3⟩,-,-⟩:=lh B1;exact bodyPost_ret (v:=.tuple #[.agg #[.int .i64 0,.string ⟨#[]⟩,.int .i64 0,.int .i64 0],.int .i64 0]) (by simp[results,Tryz.results37,go_sem,c0,c1,c2,c3]) rfl (by rw[HC.out,HX.out];exact⟨rfl,R1,K1⟩)
theorem AB(fs:Fs)(k j:Nat)(h:j<k):aC (fs.take k) j=aC fs j/\aj (fs.take k) j=aj fs j:=by
 unfold aC aj;rw[List.getD_eq_getElem?_getD,List.getElem?_take,if_pos h,List.getD_eq_getElem?_getD];exact⟨rfl,rfl⟩
theorem lO.take{w:World}{ao:Option Addr}{cap:Nat}{fs:Fs}(h:lO w ao cap fs)(k:Nat)(hk:k<=fs.length):lO w ao cap (fs.take k):=by
 have hl:(fs.take k).length=k:=by rw[List.length_take];omega
 refine⟨by rw[hl];exact Nat.le_trans hk h.1,fun j hj=>?_⟩;rw[hl]at hj;obtain⟨e1,e2⟩:=AB fs k j hj;rw[e1,e2];exact h.2 j (by omega)
theorem Gh{w:World}{g:Nat}{cap:Nat}{fs:Fs}(h:lO w (some ⟨g,0,none⟩) cap fs)(j:Nat)(u:Value)(hu:(oD fs)[j]?=some u):w.cell? ⟨g,j,none⟩=some u:=by
 have hl:j<fs.length*2:=by
  rw[<-sD];exact(List.getElem?_eq_some_iff.1 hu).1
 obtain⟨g',e,-,c0,c1⟩:=h.2 (j / 2) (by omega)
 cases e
 obtain⟨f0,f1⟩:=tH fs (j / 2) (by omega)
 rcases Nat.mod_two_eq_zero_or_one j with e | e
 ·rw[show j / 2*2=j by omega]at c0 f0
  rw[f0]at hu;rw[c0,<-hu]
 ·rw[show j / 2*2+1=j by omega]at c1 f1
  rw[f1]at hu;rw[c1,<-hu]
def JV(w:World)(v:Nat)(h:Hd)(fs:Fs)(w':World):Prop:=∃h',cW w' v h' fs/\ab (v :: h.blk.toList) w w'/\∀b,h'.blk=some b->h.blk=some b∨w.heap.size<=b
theorem JV.stay{w w':World}{v:Nat}{h:Hd}{fs:Fs}{on:Bool}{p2 p3 p4:Value}(a:fI w v fs h on p2 p3 p4)(k:ab [] w w'):JV w v h fs w':=⟨h,⟨_,_,_,_,a.still k⟩,k.mono (by simp),fun _ e=>Or.inl e⟩
theorem fI.newRow{W w5:World}{v:Nat}{fs fs':Fs}{h h5:Hd}{on:Bool}{p2 p3 p4:Value}(a:fI W v fs h on p2 p3 p4)(k:ab [] W w5)(o:aA w5 h5 (b8 fs'))(hb:∀q,h5.blk=some q->W.heap.size<=q)(hl:fs'.length<=4){m:Nat}(hm:m=fs'.length):fI (w5.setCell ⟨v,0,none⟩ (.slice h5.ao m h5.cap)) v fs' h5 on p2 p3 p4:=by
 have d5:=k.get a.d (by simp);have hz:=ae a.d;have far5:h5.blk≠some v:=fun x=>by have:=hb v x;omega
 have kk:ab [v] w5 (w5.setCell ⟨v,0,none⟩ (.slice h5.ao m h5.cap)):=(ab.refl _ _).setCell (Or.inl (by simp)) _;subst hm;exact⟨by rw[ah d5];rfl,o.moved (fun q hq=>kk.block q (o.lt hq) (by simp;intro e;exact far5 (by rw[<-e];exact hq))),far5,hl⟩
set_option maxRecDepth 100000 in
theorem tZ(v:Nat)(fs0 fs:Fs)(h:Hd)(on:Bool)(p2 p3 p4:Value)(ao:Option Addr)(cap:Nat)(w:World)(hR:fI w v fs0 h on p2 p3 p4)(hS:lO w ao cap fs)(hn:ao=none->fs.length=0/\cap=0)(ha:∀ad,ao=some ad->∃g,ad=⟨g,0,none⟩)(hsz:∀j,j<fs.length->(aC fs j).size<=1073741824/\(aj fs j).size<=1073741824) :
  Calls Tryz.prog 31 #[.pointer (some ⟨v,0,none⟩),.slice ao fs.length cap] w fun e w'=>e=.returned (.int .i64 (fZ fs))/\JV w v h (js fs0 fs) w':=by
 have HR:=(show Hid _ from hR)
 by_cases h4:4<fs.length
 ·have HL:Hid (fZ fs=1):=by show _=_;unfold fZ;rw[if_pos h4]
  have HLL:=(show Hid _ from l6 (fs0:=fs0) HL.out (by decide));rw[HL.out];have h4i:(4:Int)<(fs.length:Int):=by omega
  clear hR;go_enter Tryz.func31,Tryz.ntmps31;go_wp2;go_ret;exact⟨rfl,by rw[HLL.out];exact JV.stay HR.out (ab.refl _ _)⟩
 ·have HL:Hid (fZ fs=di (Ad fs) fs.length):=by show _=_;unfold fZ;rw[if_neg h4]
  obtain⟨r,Hr⟩:∃r,Hid (fZ fs=r):=⟨_,rfl⟩
  rw[Hr.out]at HL ⊢;have h4i:¬(4:Int)<(fs.length:Int):=by omega
  have HS:=(show Hid _ from hS);have HN:=(show Hid _ from hn);have HAD:=(show Hid _ from ha);have HSZ:=(show Hid _ from hsz);obtain⟨iF,hiF,hzF0,hzF1,hzF2⟩:=info_parts xc;clear hR hS hn ha hsz;go_enter Tryz.func31,Tryz.ntmps31;go_wp2
  go_loopg [5] fs.length (fun g iv wr=>∃k:Nat,k<=fs.length/\g=fs.length-k/\iv=.int .i64 k/\Hid (di (Ad fs) k=0)/\Hid (ab [] w wr))
  case atStart=>exact⟨0,by omega,rfl,rfl,rfl,ab.refl _ _⟩
  case round =>
   obtain⟨k,hk,hg,rfl,HZ,HK⟩:=hrel
   by_cases hlt:k<fs.length
   ·have hki:(k:Int)<(fs.length:Int):=by omega
    have hk0:(0:Int)<=(k:Int):=by omega
    have hcp:=HS.out.1;obtain⟨g0,rfl,hg0,c0,c1⟩:=(lO.still HS.out HK.out).2 k hlt;have HC:Hid (∀w',ab [] wr w'->w'.cell? ⟨g0,k*2,none⟩=some (.string (aC fs k))/\w'.cell? ⟨g0,k*2+1,none⟩=some (.string (aj fs k))/\g0<w'.heap.size):=fun w' kw=>⟨by rw[World.cell?_of_block (kw.block g0 hg0 (by simp))];exact c0,by rw[World.cell?_of_block (kw.block g0 hg0 (by simp))];exact c1,Nat.lt_of_lt_of_le hg0 kw.size⟩
    have HFI:Hid (∀wx,ab [] wr wx->Calls Tryz.prog 35 #[.slice (some ⟨g0,0,none⟩) k cap,.string (aC fs k)] wx fun e w'=>e=.returned (.int .i64 (bu (fs.take k) (aC fs k)))/\w'=wx):=fun wx kx=>by
     have hl:(fs.take k).length=k:=by rw[List.length_take];omega
     have:=kT (fs.take k) (some ⟨g0,0,none⟩) cap (aC fs k) wx (by omega) (lO.take (lO.still HS.out (HK.out.trans kx)) k hk);rw[hl]at this;exact this
    have HFT:Hid (∀wx,Calls Tryz.prog 34 #[.string (aC fs k),.string (aj fs k)] wx fun e w'=>e=.returned (.int .i64 (cn (aC fs k) (aj fs k)))/\w'=wx):=fun wx=>yI _ _ wx (HSZ.out k hlt).1 (by have:=(HSZ.out k hlt).2;omega)
    have HE:Hid (Ad fs k=if(cn (aC fs k) (aj fs k)==0)=false then cn (aC fs k) (aj fs k) else if 0<=bu (fs.take k) (aC fs k) then 4 else 0):=rfl;have HST:Hid ((Ad fs k==0)=false->r=Ad fs k):=fun q=>by rw[HL.out];exact mA HZ.out q hlt
    have HGO:Hid (Ad fs k=0->di (Ad fs) (k+1)=0):=fun q=>by rw[di,HZ.out];exact q
    generalize aC fs k=nm at *;generalize aj fs k=dt at *;obtain⟨ck,Hck⟩:∃ck,Hid (cn nm dt=ck):=⟨_,rfl⟩
    rw[Hck.out]at HFT HE;obtain⟨fi,Hfi⟩:∃fi,Hid (bu (fs.take k) nm=fi):=⟨_,rfl⟩
    rw[Hfi.out]at HFI HE
    go_upto_region 6 with fail
    go_region_with (go_at_call 34;refine(HFT.out _).mono ?_;rintro e w9 ⟨rfl,hw9⟩)
    all_goals
     subst hw9;obtain⟨w9,H9⟩:∃w9,Hid (wr.drew=w9):=⟨_,rfl⟩
     rw[H9.out];have HK9:Hid (ab [] wr w9):=by show ab _ _ _;rw[<-H9.out];exact(ab.refl [] wr).drew
     clear c0 c1 hg0
     cases hck:(ck==0)
     ·rw[hck,if_pos rfl]at HE
      have HX:=(show Hid _ from HST.out (by rw[HE.out];exact hck));rw[HE.out]at HX;have hcn:(ck != 0)=true:=by unfold bne;rw[hck];rfl
      go_wp2;go_ret;exact⟨am HX.out.symm,by rw[l6 (Hr.out.trans HX.out) (fun q=>by rw[q]at hck;cases hck)];exact JV.stay HR.out (HK.out.trans HK9.out)⟩
     ·rw[hck,if_neg (by simp)]at HE
      have hcn:(ck != 0)=false:=by unfold bne;rw[hck];rfl
      obtain⟨d0,d1,d2⟩:=HC.out w9 HK9.out
      by_cases hfi:0<=fi
      ·rw[if_pos hfi]at HE
       have HX:=(show Hid _ from HST.out (by rw[HE.out];rfl));rw[HE.out]at HX
       go_upto_region 9 with fail
       go_region_with (go_at_call 35;refine(HFI.out _ (by exact HK9.out.drew)).mono ?_;rintro e w8 ⟨rfl,hw8⟩)
       all_goals
        subst hw8;have HK8:Hid (ab [] w w9.drew):=(HK.out.trans HK9.out).drew;go_wp2;go_ret;exact⟨am HX.out.symm,by rw[l6 (Hr.out.trans HX.out) (by decide)];exact JV.stay HR.out HK8.out⟩
      ·rw[if_neg hfi]at HE
       have HM:=(show Hid _ from HGO.out HE.out)
       go_upto_region 9 with fail
       go_region_with (go_at_call 35;refine(HFI.out _ (by exact HK9.out.drew)).mono ?_;rintro e w8 ⟨rfl,hw8⟩)
       all_goals
        subst hw8;have HK8:Hid (ab [] w w9.drew):=(HK.out.trans HK9.out).drew;go_wp2
        go_roundg (fs.length-(k+1))
        case measure=>omega
        case rel=>exact⟨k+1,by omega,rfl,by go_num,HM,HK8⟩
   ·have e:k=fs.length:=by omega
    subst e;have HX:Hid (r=0):=by show _=_;rw[HL.out];exact HZ.out
    have hnn:¬(fs.length:Int)<(fs.length:Int):=by omega
    have HRr:=(show Hid _ from HR.out.still HK.out);have hO0:aA wr ⟨none,0⟩ (b8 []):=World.ownsRow_nil _ _ _ _;have HSr:=(show Hid _ from lO.still HS.out HK.out)
    have hc1:Hid (∀ad,ao=some ad->∀j u,(oD fs)[j]?=some u->wr.cell? (ad.add j)=some u):=fun ad e j u hu=>by
     obtain⟨g,rfl⟩:=HAD.out ad e;rw[bK];exact Gh (by rw[<-e];exact HSr.out) j u hu
    have hFb:Hid ((b8 ([]:Fs)).n+fs.length<=1000000000):=by show 0+fs.length<=_;omega
    have HRn:Hid (∀m:Nat,(b8 ([]:Fs)).n+m=m):=fun m=>Nat.zero_add m
    go_upto_region 12 with fail
    go_wp2_with (at_builtin;refine eO _ rfl (.const (.slice none 0 0)) (.tmp 43) 33 rfl iF (.agg #[.string ⟨#[]⟩,.string ⟨#[]⟩]) 32 ⟨none,0⟩ (b8 []) Tryz.underlying33 hiF hzF0 hzF1 hzF2 rfl Nat.two_pos rfl hO0 ao fs.length cap (oD fs) rfl (sD fs) HN.out hc1.out (CC fs) hFb.out (by omega) ?_;intro h5 w5 hw5 hg5;have K5:ab [] wr w5:=(hg5.kept.mono (by simp[Hd.blk]));have d5:=K5.get HRr.out.d (by simp);have v0:w5.cell? ⟨v,0,none⟩=some (.slice h.ao fs0.length h.cap):=(by rw[aa d5];rfl);have v1:w5.cell? ⟨v,1,none⟩=some (.bool on):=(by rw[aa d5];rfl);have e0:=ak d5 0;have e1:=ak d5 1;have vz:=ae d5);go_ret
    have er:(⟨(b8 []).e,(b8 []).size,(b8 []).n+fs.length,(b8 []).xs++oD fs⟩:dK)=b8 fs:=by
     show dK.mk _ _ (0+fs.length) ([]++oD fs)=_
     rw[Nat.zero_add];rfl
    rw[er]at hw5
    have hb5:∀q,h5.blk=some q->wr.heap.size<=q:=by
     intro q hq
     rcases hg5.blk with e | ⟨g,e,hg⟩
     ·rw[e]at hq;cases hq
     ·rw[e]at hq;cases hq;exact hg
    have HR5:=(HRr.out.newRow K5 hw5 hb5 (by omega) (HRn.out fs.length)).off;have HX0:=(show Hid _ from vW (fs0:=fs0) (Hr.out.trans HX.out));exact⟨am HX.out.symm,by rw[HX0.out];exact⟨h5,⟨_,_,_,_,HR5⟩,(((HK.out.trans K5).mono (by simp)).setCell (Or.inl (by simp)) _).setCell (Or.inl (by simp)) _,fun b hb=>Or.inr (Nat.le_trans HK.out.size (hb5 b hb))⟩⟩
end Go.Proofs.YtpddjjabfbfifaaGreat

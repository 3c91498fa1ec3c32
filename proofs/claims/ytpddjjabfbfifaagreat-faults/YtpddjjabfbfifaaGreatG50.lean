import Derived.Test.YtpddjjabfbfifaaGreatG49
namespace Go.Proofs.YtpddjjabfbfifaaGreat
open Go.RowKit
set_option maxHeartbeats 40000000
theorem Bn(rec:Nat->List Bool->List Tk->List Tk×List Bool)(hrec:∀k sn out,sn[k]?=some false->(rec k sn out).1.length+2000*aO (rec k sn out).2<=out.length+2000*aO sn)(fs:Fs)(n:Nat):∀L,L.length<=n->∀sn out,(b9 rec fs L sn out).1.length+2000*aO (b9 rec fs L sn out).2<=out.length+L.length+2000*aO sn:=by
 induction n with
 | zero =>
  intro L hl sn out
  cases L with
  | nil=>rw[b9];simp
  | cons _ _=>simp at hl
 | succ n ih =>
  intro L hl sn out
  cases L with
  | nil=>rw[b9];simp
  | cons t r =>
   have hl1:r.length<=n:=by simpa using hl
   rw[b9.eq_def];simp only[List.length_cons]
   split
   ·split
    ·simp only;omega
    ·simp only[List.length_append,List.length_cons,List.length_nil];omega
   ·split
    ·have:=ih r hl1 sn (out++[t])
     rw[List.length_append,List.length_cons,List.length_nil]at this;omega
    ·split
     ·simp only[List.length_append,List.length_cons,List.length_nil];omega
     ·cases r with
      | nil=>simp only;omega
      | cons a r =>
       cases r with
       | nil=>simp only[List.length_append,List.length_cons,List.length_nil];omega
       | cons b r =>
        have hl2:r.length<=n:=by simp at hl1;omega
        simp only[List.length_cons]
        split
        ·simp only[List.length_append,List.length_cons,List.length_nil];omega
        ·split
         ·simp only[List.length_append,List.length_cons,List.length_nil];omega
         ·split
          ·have:=ih r hl2 sn out
           omega
          ·next hs =>
           have hs':sn[(bt fs a.s).toNat]?=some false:=by
            rw[List.getD_eq_getElem?_getD]at hs
            cases e:sn[(bt fs a.s).toNat]? with
            | none=>rw[e]at hs;exact absurd rfl hs
            | some x=>rw[e]at hs;cases x;rfl;exact absurd rfl hs
           have h1:=hrec (bt fs a.s).toNat sn out hs'
           split
           ·omega
           ·have:=ih r hl2 (rec (bt fs a.s).toNat sn out).2 (rec (bt fs a.s).toNat sn out).1
            omega
theorem Af(fs:Fs)(hfd:∀k,(aj fs k).size<=1024)(n:Nat):∀k sn out,sn[k]?=some false->(dx fs n k sn out).1.length+2000*aO (dx fs n k sn out).2<=out.length+2000*aO sn:=by
 induction n with
 | zero=>intro k sn out _;rw[dx];simp
 | succ n ih =>
  intro k sn out hk;rw[dx];have h1:=Bn (dx fs n) ih fs _ (oL fs k) (Nat.le_refl _) (sn.set k true) out;have h2:=ye fs k;have h3:=jR sn k hk;have h4:=hfd k;omega
theorem Es(fs:Fs)(k:Nat)(hfl:fs.length<=4)(hfd:∀k,(aj fs k).size<=1024)(hk:k<fs.length):(da fs k).1.length<=10000:=by
 have h:=Af fs hfd fs.length k (List.replicate fs.length false) [] (by rw[List.getElem?_replicate,if_pos hk]);rw[lq]at h;have h2:(np fs k).length<=10000:=by unfold np;simp at h;omega
 unfold da
 split
 ·rw[List.length_dropLast];omega
 ·exact h2
def LK(fs:Fs)(v:Nat)(h:Hd)(f:oR)(c:Int)(w:World)(e:Ending)(w':World):Prop :=
 e=.returned (.tuple #[gx f,.int .i64 c])/\cW w' v h fs/\ab [v] w w'
theorem fH.keptV{w w':World}{v:Nat}{fs:Fs}{h:Hd}{on on':Bool}{p2 p3 p4 q2 q3 q4:Value}(a:fH w v fs h on p2 p3 p4)(k:ab [v] w w')(hd:w'.heap[v]?=some (.cells #[.slice h.ao fs.length h.cap,.bool on',q2,q3,q4] 85 (0,0))):fH w' v fs h on' q2 q3 q4 :=
 ⟨hd,a.own.moved (fun q hq=>k.block q (a.own.lt hq) (by simp;intro e;rw[e]at hq;exact a.far hq)),a.far,a.le⟩
theorem uB{fs:Fs}(h:∀j,j<fs.length->(aj fs j).size<=1024)(k:Nat):(aj fs k).size<=1024:=by
 by_cases hk:k<fs.length
 ·exact h k hk
 ·unfold aj;rw[List.getD_eq_getElem?_getD,List.getElem?_eq_none (by omega)];show(0:Nat)<=1024;omega
theorem fH.aside{w:World}{v B:Nat}{fs:Fs}{h:Hd}{on:Bool}{p2 p3 p4:Value}(a:fH w v fs h on p2 p3 p4)(hv:v≠B)(hh:∀q,h.blk=some q->q≠B)(i:Nat)(u:Value):fH (w.setCell ⟨B,i,none⟩ u) v fs h on p2 p3 p4 :=
 ⟨((ab.refl [B] w).setCell (Or.inl (by simp)) _).get a.d (by simp;exact hv),a.own.aside hh i u,a.far,a.le⟩
theorem sM{w F:World}{B v:Nat}{fs:Fs}{h:Hd}{on:Bool}{p2 p3 p4 a0 a1 a2 a3 u0 u1 u2 u3:Value}(hB:F.heap[B]?=some (.cells #[a0,a1,a2,a3] 87 (0,0)))(hR:fH F v fs h on p2 p3 p4)(hv:v<B)(hh:∀q,h.blk=some q->q<B)(hK:ab [v] w F)(hw:w.heap.size<=B) :
  ((((F.setCell ⟨B,0,none⟩ u0).setCell ⟨B,1,none⟩ u1).setCell ⟨B,2,none⟩ u2).setCell ⟨B,3,none⟩ u3).heap[B]?=some (.cells #[u0,u1,u2,u3] 87 (0,0))/\cW ((((F.setCell ⟨B,0,none⟩ u0).setCell ⟨B,1,none⟩ u1).setCell ⟨B,2,none⟩ u2).setCell ⟨B,3,none⟩ u3) v h fs/\ab [v] w ((((F.setCell ⟨B,0,none⟩ u0).setCell ⟨B,1,none⟩ u1).setCell ⟨B,2,none⟩ u2).setCell ⟨B,3,none⟩ u3):=by
 refine⟨ah (ah (ah (ah hB 0 u0) 1 u1) 2 u2) 3 u3,⟨on,p2,p3,p4,?_⟩,(((hK.setCell (Or.inr hw) _).setCell (Or.inr hw) _).setCell (Or.inr hw) _).setCell (Or.inr hw) _⟩;have hh':∀q,h.blk=some q->q≠B:=fun q hq=>by have:=hh q hq;omega
 exact(((hR.aside (by omega) hh' _ _).aside (by omega) hh' _ _).aside (by omega) hh' _ _).aside (by omega) hh' _ _
theorem lm{w:World}{B:Nat}{a0 a1 a2 a3:Value}(h:w.heap[B]?=some (.cells #[a0,a1,a2,a3] 87 (0,0))) :
  (w.cell? ⟨B,0,none⟩=some a0/\w.cell? ⟨B,1,none⟩=some a1/\w.cell? ⟨B,2,none⟩=some a2/\w.cell? ⟨B,3,none⟩=some a3)/\(w.frozen? ⟨B,0,none⟩=false/\w.frozen? ⟨B,1,none⟩=false/\w.frozen? ⟨B,2,none⟩=false/\w.frozen? ⟨B,3,none⟩=false)/\B<w.heap.size:=by
 refine⟨⟨?_,?_,?_,?_⟩,⟨ak h 0,ak h 1,ak h 2,ak h 3⟩,ae h⟩
 all_goals (rw[aa h];rfl)
theorem tH(fs:Fs)(k:Nat)(hfl:fs.length<=4)(hsz:∀j,j<fs.length->(aj fs j).size<=1024)(hk:k<fs.length)(h1:((vP (da fs k).1 (as (da fs k).1)).rule==0)=true)(h2:((da fs k).2.rule==0)=true):gw fs k=cI/\∀q,q<(da fs k).1.length->a9 (da fs k).1 (as (da fs k).1) q=0:=by
 obtain⟨e,g⟩:=zE fs k hfl hsz hk
 have hr:(gw fs k).1=0:=by
  unfold gw;rw[if_neg (by rw[h1];simp)];exact eq_of_beq h2
 refine⟨?_,(g (by rw[e,hr];rfl)).1.u⟩
 have e2:(da fs k).2=ic:=by
  unfold da at h2 ⊢
  split
  ·next hb =>
   rw[if_pos hb]at h2;unfold dI at hb
   cases hL:(np fs k).getLast? with
   | none=>rw[hL]at hb;cases hb
   | some t =>
    rw[hL]at hb h2;simp only[Option.getD_some]at h2;simp only at hb;rw[h2]at hb
    cases hb
  ·rfl
 unfold gw;rw[if_neg (by rw[h1];simp),e2];rfl
set_option maxRecDepth 100000 in
theorem vf(v:Nat)(fs:Fs)(h:Hd)(on:Bool)(p2 p3 p4:Value)(n:ByteArray)(w:World)(hR:fH w v fs h on p2 p3 p4)(hf:bt fs n<0) :
  Calls Tryz.prog 37 #[.pointer (some ⟨v,0,none⟩),.string n] w fun e w'=>LK fs v h cI 5 w e w':=by
 obtain⟨W,HW⟩:∃W,Hid (w.alloc (.cells #[.int .i64 0,.string ⟨#[]⟩,.int .i64 0,.int .i64 0] 87)=W):=⟨_,rfl⟩
 have HKW:Hid (ab [] w W):=by show ab [] w W;rw[<-HW.out];exact(ab.refl [] _).alloc _
 have BF:Hid (W.heap[w.heap.size]?=some (.cells #[.int .i64 0,.string ⟨#[]⟩,.int .i64 0,.int .i64 0] 87 (0,0))):=by show _=_;rw[<-HW.out];exact heap_alloc_new _ _
 have HRW:=(show Hid _ from hR.still HKW.out);have HFI:=(show Hid _ from kY fs h.ao h.cap n W (by have:=hR.le;omega) HRW.out.own.srcFi);have v0:W.cell? ⟨v,0,none⟩=some (.slice h.ao fs.length h.cap):=by rw[aa HRW.out.d];rfl
 have vz:=ae HRW.out.d;obtain⟨⟨g0,g1,g2,g3⟩,⟨f0,f1,f2,f3⟩,wz⟩:=lm BF.out;have HVZ:Hid (v<w.heap.size/\∀q,h.blk=some q->q<w.heap.size):=⟨ae hR.d,fun q hq=>hR.own.lt hq⟩;clear hR;go_enter Tryz.func37,Tryz.ntmps37
 go_upto_region 1 with fail
 rw[HW.out];go_wp2_with (go_at_call 35;refine Calls.mono HFI.out ?_;rintro e w9 ⟨rfl,hw9⟩;rw[hw9];clear hw9);obtain⟨B1,R1,K1⟩:=sM (u0:=.int .i64 0) (u1:=.string ⟨#[]⟩) (u2:=.int .i64 0) (u3:=.int .i64 0) BF.out HRW.out HVZ.out.1 HVZ.out.2 (mx HKW.out) (Nat.le_refl _);obtain⟨⟨c0,c1,c2,c3⟩,-,-⟩:=lm B1;exact bodyPost_ret (v:=.tuple #[.agg #[.int .i64 0,.string ⟨#[]⟩,.int .i64 0,.int .i64 0],.int .i64 5]) (by simp[results,Tryz.results37,go_sem,c0,c1,c2,c3]) rfl ⟨rfl,R1,K1⟩
set_option maxRecDepth 100000 in
theorem xe(v k:Nat)(fs:Fs)(h:Hd)(on:Bool)(p2 p3 p4:Value)(n:ByteArray)(w:World)(hR:fH w v fs h on p2 p3 p4)(hf:bt fs n=(k:Int))(hk:k<fs.length)(hsz:∀j,j<fs.length->(aj fs j).size<=1024) :
  Calls Tryz.prog 37 #[.pointer (some ⟨v,0,none⟩),.string n] w fun e w'=>LK fs v h (gw fs k) (if((gw fs k).1==0)=true then 0 else 6) w e w':=by
 have hle:=hR.le;obtain⟨hao,hcap⟩:=h;obtain⟨gf,egf,hgf,-⟩:=hR.own.srcFi.2 k hk;replace egf:hao=some ⟨gf,0,none⟩:=egf;subst egf;obtain⟨W,HW⟩:∃W,Hid (w.alloc (.cells #[.int .i64 0,.string ⟨#[]⟩,.int .i64 0,.int .i64 0] 87)=W):=⟨_,rfl⟩
 have HKW:Hid (ab [] w W):=by show ab [] w W;rw[<-HW.out];exact(ab.refl [] _).alloc _
 have BF:Hid (W.heap[w.heap.size]?=some (.cells #[.int .i64 0,.string ⟨#[]⟩,.int .i64 0,.int .i64 0] 87 (0,0))):=by show _=_;rw[<-HW.out];exact heap_alloc_new _ _
 have HRW:=(show Hid _ from hR.still HKW.out);have HFI:=(show Hid _ from kY fs (some ⟨gf,0,none⟩) hcap n W (by omega) HRW.out.own.srcFi);rw[hf]at HFI;have v0:W.cell? ⟨v,0,none⟩=some (.slice (some ⟨gf,0,none⟩) fs.length hcap):=by rw[aa HRW.out.d];rfl
 have v1:W.cell? ⟨v,1,none⟩=some (.bool on):=by rw[aa HRW.out.d];rfl
 have e1:=ak HRW.out.d 1;have vz:=ae HRW.out.d;have HVZ:Hid (v<w.heap.size/\∀q,(⟨some ⟨gf,0,none⟩,hcap⟩:Hd).blk=some q->q<w.heap.size):=⟨ae hR.d,fun q hq=>hR.own.lt hq⟩;obtain⟨W1,HW1⟩:∃W1,Hid (W.setCell ⟨v,1,none⟩ (.bool false)=W1):=⟨_,rfl⟩
 have HR1:Hid (fH W1 v fs ⟨some ⟨gf,0,none⟩,hcap⟩ false p2 p3 p4):=by show fH _ _ _ _ _ _ _ _;rw[<-HW1.out];exact HRW.out.off
 have HK1:Hid (ab [v] w W1):=by show ab _ _ _;rw[<-HW1.out];exact(mx HKW.out).setCell (Or.inl (by simp)) _
 have BF1:Hid (W1.heap[w.heap.size]?=some (.cells #[.int .i64 0,.string ⟨#[]⟩,.int .i64 0,.int .i64 0] 87 (0,0))):=by
  show _=_
  rw[<-HW1.out];exact((ab.refl [v] _).setCell (Or.inl (by simp)) _).get BF.out (by have:=HVZ.out.1;simp;omega)
 have HFL:=(show Hid _ from DI fs gf hcap k W1 hle (uB hsz) hk HR1.out.own.srcFi (HR1.out.own.lt rfl));have v01:W1.cell? ⟨v,0,none⟩=some (.slice (some ⟨gf,0,none⟩) fs.length hcap):=by rw[aa HR1.out.d];rfl
 have vz1:=ae HR1.out.d;have HTF:=(show Hid _ from FO fs k (uB hsz));have HTL:=(show Hid _ from Es fs k hle (uB hsz) hk);have HF0:=(show Hid _ from tH fs k hle hsz hk);have HFR:Hid (gw fs k=if((vP (da fs k).1 (as (da fs k).1)).rule==0)=false then Gp (vP (da fs k).1 (as (da fs k).1)) else Gp (da fs k).2):=rfl;obtain⟨f,Hf⟩:∃f,Hid (gw fs k=f):=⟨_,rfl⟩
 rw[Hf.out]at HFR HF0 ⊢;obtain⟨cc,Hcc⟩:∃cc,Hid ((if(f.1==0)=true then(0:Int) else 6)=cc):=⟨_,rfl⟩
 rw[Hcc.out];obtain⟨⟨T,t⟩,HTt⟩:∃Tt,Hid (da fs k=Tt):=⟨_,rfl⟩
 rw[HTt.out]at HFL HTF HTL HF0 HFR;simp only at HFL HTF HTL HF0 HFR;obtain⟨u,Hu⟩:∃u,Hid (vP T (as T)=u):=⟨_,rfl⟩
 rw[Hu.out]at HF0 HFR;have hkn:¬(k:Int)<0:=by omega
 have HSZ:Hid (∀i,(tS T i).size<=1073741824):=fun i=>by
  unfold tS;rw[List.getD_eq_getElem?_getD]
  cases e:T[i]? with
  | none=>show(0:Nat)<=_;omega
  | some t=>have:=(HTF.out t (List.mem_of_getElem? e)).1;show t.s.size<=_;omega
 clear hR hgf hf;go_enter Tryz.func37,Tryz.ntmps37
 go_upto_region 1 with fail
 rw[HW.out]
 go_upto_region 5 with (go_at_call 35;refine Calls.mono HFI.out ?_;rintro e w9 ⟨rfl,hw9⟩;rw[hw9];clear hw9)
 rw[HW1.out];clear v0 v1 e1 vz;obtain⟨ts,tr,tf,tl,tc⟩:=t;obtain⟨us,ur,uf,ul,uc⟩:=u;simp only at HFL
 go_upto_region 6 with (go_at_call 54;refine Calls.mono HFL.out ?_;rintro e w7 ⟨aT,cT,rfl,sT,k7⟩)
 obtain⟨W8,HW8⟩:∃W8,Hid (w7.alloc (.cells #[.int .i64 tr,.string tf,.int .i64 tl,.int .i64 tc] 87)=W8):=⟨_,rfl⟩
 have HK8:Hid (ab [] W1 W8):=by show ab _ _ _;rw[<-HW8.out];exact k7.alloc _
 have HB8:Hid (W8.heap[w7.heap.size]?=some (.cells #[.int .i64 tr,.string tf,.int .i64 tl,.int .i64 tc] 87 (0,0))):=by show _=_;rw[<-HW8.out];exact heap_alloc_new _ _
 have HND:=(show Hid _ from F7 T aT cT W8 (jU.still sT (by rw[<-HW8.out];exact(ab.refl [] _).alloc _)) (by have:=HTL.out;omega) HSZ.out);rw[HW8.out];clear sT k7 v01 vz1
 go_upto_region 7 with (go_at_call 55;refine Calls.mono HND.out ?_;rintro e w9 ⟨rfl,aS,cS,d9,k9⟩)
 have HFF:=(show Hid _ from uJ W8.heap.size T aT cT (as T) aS cS w9 d9 (by have:=HTL.out;omega) (J8 T (by have:=HTL.out;omega)) HSZ.out);rw[Hu.out]at HFF;simp only at HFF;have HK9:=(show Hid _ from HK8.out.trans k9);have HB9:=(show Hid _ from k9.get HB8.out (by simp));have HD9:=(show Hid _ from d9);clear d9 k9
 go_upto_region 8 with (go_at_call 56;refine Calls.mono HFF.out ?_;rintro e w10 ⟨rfl,k10⟩)
 obtain⟨W11,HW11⟩:∃W11,Hid (w10.alloc (.cells #[.int .i64 ur,.string uf,.int .i64 ul,.int .i64 uc] 87)=W11):=⟨_,rfl⟩
 have HB11:Hid (W11.heap[w10.heap.size]?=some (.cells #[.int .i64 ur,.string uf,.int .i64 ul,.int .i64 uc] 87 (0,0))):=by show _=_;rw[<-HW11.out];exact heap_alloc_new _ _
 have HK9':Hid (ab [] w9 W11):=by show ab _ _ _;rw[<-HW11.out];exact k10.alloc _
 have HK11:=(show Hid _ from HK9.out.trans HK9'.out);have HD11:=(show Hid _ from fa.still HD9.out HK9'.out);have HBt:=(show Hid _ from HK9'.out.get HB9.out (by simp));have HR11:=(show Hid _ from HR1.out.still HK11.out);have HBR:=(show Hid _ from HK11.out.get BF1.out (by simp));have HKA:=(show Hid _ from HK1.out.trans (mx HK11.out));rw[HW11.out];clear k10;obtain⟨⟨u0,u1,u2,u3⟩,-,uz⟩:=lm HB11.out;obtain⟨⟨t0,t1,t2,t3⟩,-,tz⟩:=lm HBt.out;obtain⟨⟨g0,g1,g2,g3⟩,⟨f0,f1,f2,f3⟩,wz⟩:=lm HBR.out
 cases hu:(ur==0)
 ·have HX:Hid (f=(ur,⟨uf,ul,uc⟩)):=by show _=_;rw[HFR.out];exact if_pos hu
  have HC:Hid (cc=6):=by show _=_;rw[<-Hcc.out,HX.out];exact if_neg (fun q=>by have q':(ur==0)=true:=q;rw[hu]at q';cases q')
  go_wp2;obtain⟨B1,R1,K1⟩:=sM (u0:=.int .i64 ur) (u1:=.string uf) (u2:=.int .i64 ul) (u3:=.int .i64 uc) HBR.out HR11.out HVZ.out.1 HVZ.out.2 HKA.out (Nat.le_refl _);obtain⟨⟨c0,c1,c2,c3⟩,-,-⟩:=lm B1;exact bodyPost_ret (v:=.tuple #[.agg #[.int .i64 ur,.string uf,.int .i64 ul,.int .i64 uc],.int .i64 6]) (by simp[results,Tryz.results37,go_sem,c0,c1,c2,c3]) rfl (by rw[HC.out,HX.out];exact⟨rfl,R1,K1⟩)
 ·cases ht:(tr==0)
  ·have HX:Hid (f=(tr,⟨tf,tl,tc⟩)):=by show _=_;rw[HFR.out];exact if_neg (fun q=>by have q':(ur==0)=false:=q;rw[hu]at q';cases q')
   have HC:Hid (cc=6):=by show _=_;rw[<-Hcc.out,HX.out];exact if_neg (fun q=>by have q':(tr==0)=true:=q;rw[ht]at q';cases q')
   go_wp2;obtain⟨B1,R1,K1⟩:=sM (u0:=.int .i64 tr) (u1:=.string tf) (u2:=.int .i64 tl) (u3:=.int .i64 tc) HBR.out HR11.out HVZ.out.1 HVZ.out.2 HKA.out (Nat.le_refl _);obtain⟨⟨c0,c1,c2,c3⟩,-,-⟩:=lm B1;exact bodyPost_ret (v:=.tuple #[.agg #[.int .i64 tr,.string tf,.int .i64 tl,.int .i64 tc],.int .i64 6]) (by simp[results,Tryz.results37,go_sem,c0,c1,c2,c3]) rfl (by rw[HC.out,HX.out];exact⟨rfl,R1,K1⟩)
  ·obtain⟨hf0,hall⟩:=HF0.out hu ht
   have HALL:=(show Hid _ from hall);have HX:=(show Hid _ from hf0);have HC:Hid (cc=0):=by show _=_;rw[<-Hcc.out,HX.out];rfl
   clear hf0 hall;have x2:W11.cell? ⟨v,2,none⟩=some p2:=by rw[aa HR11.out.d];rfl
   have y2:=ak HR11.out.d 2;have vz:=ae HR11.out.d;have d12:=ah HR11.out.d 2 (.pointer (some ⟨W8.heap.size,0,none⟩));obtain⟨W12,HW12⟩:∃W12,Hid (W11.setCell ⟨v,2,none⟩ (.pointer (some ⟨W8.heap.size,0,none⟩))=W12):=⟨_,rfl⟩
   rw[HW12.out]at d12;have HK12:Hid (ab [v] W11 W12):=by show ab _ _ _;rw[<-HW12.out];exact(ab.refl [v] _).setCell (Or.inl (by simp)) _
   have HD12:=(show Hid _ from fa.off HD11.out HR11.out.d HK12.out);have HB12:=(show Hid _ from HK12.out.get HBR.out (by have:=HVZ.out.1;simp;omega));have HR12:=(show Hid _ from fH.keptV (on':=false) HR11.out HK12.out d12);have HJG:=(show Hid _ from AM v W8.heap.size T aT cT aS cS _ _ _ _ _ _ W12 d12 HD12.out HTL.out HTF.out HALL.out);clear d12
   go_upto_region 13 with fail
   rw[HW12.out];clear x2 y2 vz u0 u1 u2 u3 uz t0 t1 t2 t3 tz g0 g1 g2 g3 f0 f1 f2 f3 wz
   go_upto_region 14 with (go_at_call 57;refine Calls.mono HJG.out ?_;rintro e w13 ⟨PS,j1,j2,RS,rfl,-,-,jw⟩)
   have HB13:=(show Hid _ from jw.kept.get HB12.out (by have:=HVZ.out.1;simp;omega));have d13:=jw.d;have K13:=jw.kept;have HR13:=(show Hid _ from fH.keptV (on':=false) HR12.out K13 d13);have HKB:=(show Hid _ from(HKA.out.trans HK12.out).trans K13);have x1:w13.cell? ⟨v,1,none⟩=some (.bool false):=by rw[aa d13];rfl
   have y1:=ak d13 1;have vz:=ae d13;have d14:=ah d13 1 (.bool true);obtain⟨W14,HW14⟩:∃W14,Hid (w13.setCell ⟨v,1,none⟩ (.bool true)=W14):=⟨_,rfl⟩
   rw[HW14.out]at d14;have HK14:Hid (ab [v] w13 W14):=by show ab _ _ _;rw[<-HW14.out];exact(ab.refl [v] _).setCell (Or.inl (by simp)) _
   have HR14:=(show Hid _ from fH.keptV (on':=true) HR13.out HK14.out d14);have HB14:=(show Hid _ from HK14.out.get HB13.out (by have:=HVZ.out.1;simp;omega));have HKC:=(show Hid _ from HKB.out.trans HK14.out);clear jw d13 K13 d14
   go_upto_region 15 with fail
   rw[HW14.out];clear x1 y1 vz;obtain⟨⟨g0,g1,g2,g3⟩,⟨f0,f1,f2,f3⟩,wz⟩:=lm HB14.out;go_wp2;obtain⟨B1,R1,K1⟩:=sM (u0:=.int .i64 0) (u1:=.string ⟨#[]⟩) (u2:=.int .i64 0) (u3:=.int .i64 0) HB14.out HR14.out HVZ.out.1 HVZ.out.2 HKC.out (Nat.le_refl _);obtain⟨⟨c0,c1,c2,c3⟩,-,-⟩:=lm B1;exact bodyPost_ret (v:=.tuple #[.agg #[.int .i64 0,.string ⟨#[]⟩,.int .i64 0,.int .i64 0],.int .i64 0]) (by simp[results,Tryz.results37,go_sem,c0,c1,c2,c3]) rfl (by rw[HC.out,HX.out];exact⟨rfl,R1,K1⟩)
end Go.Proofs.YtpddjjabfbfifaaGreat

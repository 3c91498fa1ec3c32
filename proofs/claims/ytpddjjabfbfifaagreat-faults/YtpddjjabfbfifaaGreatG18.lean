import Derived.Test.YtpddjjabfbfifaaGreatG17
namespace Go.Proofs.YtpddjjabfbfifaaGreat
open Go.RowKit
set_option maxHeartbeats 40000000
theorem DY(n:Nat):madeCells (Value.agg #[.string ⟨#[]⟩,.int .i64 0,.int .i64 0,.string ⟨#[]⟩,.int .i64 0,.int .i64 0]).cells (n*6)=(jz (List.replicate n nZ)).toArray:=by
  have hc:(Value.agg #[.string ⟨#[]⟩,.int .i64 0,.int .i64 0,.string ⟨#[]⟩,.int .i64 0,.int .i64 0]).cells=(lr nZ).toArray:=by rfl
  rw[hc]
  apply Array.ext
  · rw[size_madeCells];simp[zD]
  · intro i h1 h2
    rw[size_madeCells]at h1;have hk:i / 6<(List.replicate n nZ).length:=by simp;omega
    have e:=CX (List.replicate n nZ) (i / 6) hk (i % 6) (by omega);have ei:i / 6*6+i % 6=i:=by omega
    have e2:(List.replicate n nZ)[i / 6]=nZ:=by simp
    rw[ei,e2]at e;have h3:i<(jz (List.replicate n nZ)).length:=by simpa using h2
    have e3:(jz (List.replicate n nZ)).toArray[i]=(jz (List.replicate n nZ))[i]:=by simp
    rw[e3];have e4:some (jz (List.replicate n nZ))[i]=(lr nZ)[i % 6]?:=by rw[<-e,List.getElem?_eq_getElem h3]
    have l:some (madeCells (lr nZ).toArray (n*6))[i]=(lr nZ)[i % 6]?:=by
      have hj:i % 6=0∨i % 6=1∨i % 6=2∨i % 6=3∨i % 6=4∨i % 6=5:=by omega
      have hs:(lr nZ).toArray.size=6:=rfl;simp only[madeCells,Array.getElem_map,Array.getElem_range,hs]
      rcases hj with h | h | h | h | h | h <;> rw[h] <;> rfl
    exact Option.some.inj (l.trans e4.symm)
theorem GN(l:List St):ii l 0=List.replicate l.length nZ:=by simp[ii,jy]
theorem lK{w w2:World}{A B:Nat}(h:ab [] w w2)(hA:w.heap.size<=A)(hB:w.heap.size<=B)(u0 u1 u2 v0 v1 v2 v3:Value) :
    ab [] w (((((((w2.setCell ⟨A,0,none⟩ u0).setCell ⟨A,1,none⟩ u1).setCell ⟨A,2,none⟩ u2).setCell ⟨B,0,none⟩ v0).setCell ⟨B,1,none⟩ v1).setCell ⟨B,2,none⟩ v2).setCell ⟨B,3,none⟩ v3) :=
  ((((((h.setCell (Or.inr hA) _).setCell (Or.inr hA) _).setCell (Or.inr hA) _).setCell (Or.inr hB) _).setCell (Or.inr hB) _).setCell (Or.inr hB) _).setCell (Or.inr hB) _
theorem mU(w2:World)(A B:Nat)(u0 u1 u2 v0 v1 v2 v3:Value) :
    ab [A,B] w2 (((((((w2.setCell ⟨A,0,none⟩ u0).setCell ⟨A,1,none⟩ u1).setCell ⟨A,2,none⟩ u2).setCell ⟨B,0,none⟩ v0).setCell ⟨B,1,none⟩ v1).setCell ⟨B,2,none⟩ v2).setCell ⟨B,3,none⟩ v3) :=
  (((((((ab.refl [A,B] w2).setCell (Or.inl (by simp)) _).setCell (Or.inl (by simp)) _).setCell (Or.inl (by simp)) _).setCell (Or.inl (by simp)) _).setCell (Or.inl (by simp)) _).setCell (Or.inl (by simp)) _).setCell (Or.inl (by simp)) _
def Af(fs:Fs)(k0:Nat)(w:World)(e:Ending)(w':World):Prop :=
  (if((cO fs k0).1.1==0)=true then ∃(H:Nat->Hd) (g:Nat) (a7:Option Addr) (n7 c7:Nat),
      e=.returned (.tuple #[.agg #[.slice (H 6).ao (cO fs k0).2.2.sts.length (H 6).cap,.slice a7 n7 c7,.slice (some ⟨g,0,none⟩) (cO fs k0).2.2.sts.length (cO fs k0).2.2.sts.length],gu cJ]) /\
      gO w' (cO fs k0).2.2.sts H/\w'.heap[g]?=some (.cells (jz (jy (cO fs k0).2.2.sts (cO fs k0).2.2.sts.length)).toArray 38 (0,0))/\(∀k,fm H k->w.heap.size<=k)/\w.heap.size<=g
   else e=.returned (.tuple #[.agg #[.slice none 0 0,.slice none 0 0,.slice none 0 0],gu (cO fs k0).1]))/\ab [] w w'
set_option maxRecDepth 100000 in
theorem KJ(v tt k0:Nat)(fs:Fs)(more:List Value)(w:World)
    (ht:bm w v tt fs more) (hk0:k0<fs.length) (hsz:∀j,j<fs.length->(aj fs j).size<=1024) :
    Calls Tryz.prog 53 #[.pointer (some ⟨v,0,none⟩),.int .i64 k0] w fun e w'=>Af fs k0 w e w':=by
  have hvw:=ht.lt;obtain⟨i0,hi,hz0,hz1,hz2⟩:=info_parts Lo;have HG:=(show Hid _ from GX fs hsz k0);obtain⟨W,hW⟩:∃W,W=(w.alloc (.cells #[.slice none 0 0,.slice none 0 0,.slice none 0 0] 78)).alloc (.cells #[.int .i64 0,.string ⟨#[]⟩,.int .i64 0,.int .i64 0] 87):=⟨_,rfl⟩
  have hK:ab [] w W:=by rw[hW];exact((ab.refl [] _).alloc _).alloc _
  have hA:W.heap[w.heap.size]?=some (.cells #[.slice none 0 0,.slice none 0 0,.slice none 0 0] 78 (0,0)):=by
    rw[hW];exact((ab.refl [] _).alloc _).get (heap_alloc_new _ _) (by simp)
  have hF:W.heap[w.heap.size+1]?=some (.cells a9 87 (0,0)):=by
    rw[hW];have e:(w.alloc (.cells #[.slice none 0 0,.slice none 0 0,.slice none 0 0] 78)).heap.size=w.heap.size+1:=by simp
    rw[<-e];exact heap_alloc_new _ _
  have HW:=(show Hid _ from hW.symm);have RD:=GV v tt k0 fs more W (ht.kept hK (by simp)) hk0 hsz;have HRD:=(show Hid _ from RD);clear RD hW;unfold Af;generalize cO fs k0=R at *;obtain⟨⟨r,pf,pl,pc⟩,bg',d'⟩:=R;simp only[gu,cJ]at HRD HG ⊢;generalize d'.sts=l at *;generalize d'.rbl=rb at *;go_enter Tryz.func53,Tryz.ntmps53;go_wp2_with fail;rw[HW.out];refine Calls.mono HRD.out ?_;rintro e w2 ⟨hcase,hk2⟩;have hA2:=hk2.get hA (by simp);have hF2:=hk2.get hF (by simp);have hz:=hk2.size;have hWz:=ae hF
  cases hr:(r==0)
  · have hr':(r != 0)=true:=by simp[bne,hr]
    simp only[hr,Bool.false_eq_true,if_false]at hcase ⊢;subst hcase;have a0:w2.cell? ⟨w.heap.size,0,none⟩=some (.slice none 0 0):=by rw[aa hA2];rfl
    have a1:w2.cell? ⟨w.heap.size,1,none⟩=some (.slice none 0 0):=by rw[aa hA2];rfl
    have a2:w2.cell? ⟨w.heap.size,2,none⟩=some (.slice none 0 0):=by rw[aa hA2];rfl
    obtain⟨z0,z1,z2,z3⟩:=bR hF2;have ya:=ak hA2;have yf:=ak hF2;have hA2w:=ae hA2;have hF2w:=ae hF2;go_wp2_with fail
    go_region
    all_goals go_wp2
    all_goals exact bodyPost_ret (v:=.tuple #[.agg #[.slice none 0 0,.slice none 0 0,.slice none 0 0],.agg #[.int .i64 r,.string pf,.int .i64 pl,.int .i64 pc]]) (by simp[results,Tryz.results53,go_sem,a0,a1,a2,z0,z1,z2,z3,hA2w,hF2w]) rfl ⟨rfl,(((lK (hK.trans hk2) (Nat.le_refl _) (Nat.le_succ _) _ _ _ _ _ _ _).alloc _).alloc _).drew⟩
  · have hr':(r != 0)=false:=by simp[bne,hr]
    simp only[hr,if_true]at hcase ⊢;obtain⟨H0,rfl,hS0,hN0⟩:=hcase;obtain⟨hS,hT⟩:=hS0.trim;have hE6:H0 6=rX l H0 6:=(mo l H0 6 (Or.inl rfl)).symm;rw[hE6];have hN:∀k,fm (rX l H0) k->k<w2.heap.size/\w.heap.size+2<=k:=fun k hk=>⟨(hT k hk).1,by have:=hN0 k (hT k hk).2;omega⟩
    clear hS0 hN0 hT hE6;generalize rX l H0=H at *;generalize (H0 7).ao=a7 at *;generalize (H0 7).cap=c7 at *;generalize rb.length=n7 at *;clear H0;have HN:=(show Hid _ from hN);have hlen:=HG.out.ok.len;obtain⟨W3,hW3⟩:∃W3,W3=(w2.alloc (.cells #[.slice (H 6).ao l.length (H 6).cap,.slice a7 n7 c7] 76)).alloc (.cells #[.int .i64 0,.string ⟨#[]⟩,.int .i64 0,.int .i64 0] 87):=⟨_,rfl⟩
    have k3:ab [] w2 W3:=by rw[hW3];exact((ab.refl [] _).alloc _).alloc _
    have B3:W3.heap[w2.heap.size]?=some (.cells #[.slice (H 6).ao l.length (H 6).cap,.slice a7 n7 c7] 76 (0,0)):=by
      rw[hW3];exact((ab.refl [] _).alloc _).get (heap_alloc_new _ _) (by simp)
    have hs3:W3.heap.size=w2.heap.size+2:=by rw[hW3];simp
    have hS3:=hS.still k3;have R3:eu W3 w2.heap.size 0 l H:=⟨⟨_,_,B3,rfl⟩,hS3⟩;have r0:W3.cell? ⟨w2.heap.size,0,none⟩=some (.slice (H 6).ao l.length (H 6).cap):=by rw[aa B3];rfl
    have r1:W3.cell? ⟨w2.heap.size,1,none⟩=some (.slice a7 n7 c7):=by rw[aa B3];rfl
    have HCA:Hid (∀w',ab [] W3 w'->Calls Tryz.prog 80 #[.pointer (some ⟨w2.heap.size,0,none⟩)] w' fun e w''=>e=.returned (.int .i64 l.length)/\w''=w'):=fun w' q=>dR w2.heap.size 0 l H w' (R3.still q)
    have HRR:Hid (∀w',ab [] W3 w'->w'.cell? ⟨w2.heap.size,0,none⟩=some (.slice (H 6).ao l.length (H 6).cap)/\w'.cell? ⟨w2.heap.size,1,none⟩=some (.slice a7 n7 c7)):=fun w' q=>by
      have q2:=q.get B3 (by simp);exact⟨by rw[aa q2];rfl,by rw[aa q2];rfl⟩
    have m1:=fun w=>dn (P:=Tryz.prog) w 54 38 i0 _ Tryz.underlying54 hi hz0 l.length 6 hz1 (by rw[hz2];omega) (by omega)
    obtain⟨mc,hmc⟩:∃mc,mc=madeCells (Value.agg #[.string ⟨#[]⟩,.int .i64 0,.int .i64 0,.string ⟨#[]⟩,.int .i64 0,.int .i64 0]).cells (l.length*6):=⟨_,rfl⟩
    have HMC:Hid (mc=(jz (ii l 0)).toArray):=by show _=_;rw[hmc,DY,GN]
    rw[<-hmc]at m1;clear hmc hN hS;have HW3:=(show Hid _ from hW3.symm);clear hW3
    go_upto_region 4 with fail
    rw[HW3.out]
    go_region_held3 (fun w'=>w'.cell? ⟨w2.heap.size,0,none⟩=some (.slice (H 6).ao l.length (H 6).cap)/\w'.cell? ⟨w2.heap.size,1,none⟩=some (.slice a7 n7 c7)) (go_keep) (first | (go_at_call 80;refine(HCA.out _ (by first | exact(ab.refl [] W3).drew | exact((ab.refl [] W3).alloc _).drew | exact(ab.refl [] W3).drew.alloc _)).mono ?_;rintro e wc ⟨rfl,hwc⟩;rw[hwc]))
    · obtain⟨W4,hW4⟩:∃W4,W4=((W3.alloc (.cells mc 38)).alloc (.cells #[.slice (H 6).ao l.length (H 6).cap,.slice a7 n7 c7,.slice (some ⟨w2.heap.size+2,0,none⟩) l.length l.length] 78)).drew:=⟨_,rfl⟩
      have k4:ab [] W3 W4:=by rw[hW4];exact(((ab.refl [] _).alloc _).alloc _).drew
      have B4:W4.heap[w2.heap.size+2+1]?=some (.cells #[.slice (H 6).ao l.length (H 6).cap,.slice a7 n7 c7,.slice (some ⟨w2.heap.size+2,0,none⟩) l.length l.length] 78 (0,0)):=by
        rw[hW4];have e1:(W3.alloc (.cells mc 38)).heap.size=w2.heap.size+2+1:=by simp[hs3]
        have e:=heap_alloc_new (W3.alloc (.cells mc 38)) (.cells #[.slice (H 6).ao l.length (H 6).cap,.slice a7 n7 c7,.slice (some ⟨w2.heap.size+2,0,none⟩) l.length l.length] 78);rw[e1]at e;exact(ab.refl [] _).drew.get e (by simp)
      have G4:W4.heap[w2.heap.size+2]?=some (.cells (jz (ii l 0)).toArray 38 (0,0)):=by
        rw[hW4,<-HMC.out];have e:=((ab.refl [] (W3.alloc (.cells mc 38))).alloc (.cells #[.slice (H 6).ao l.length (H 6).cap,.slice a7 n7 c7,.slice (some ⟨w2.heap.size+2,0,none⟩) l.length l.length] 78)).drew.get (heap_alloc_new _ _) (by simp);rw[hs3]at e;exact e
      rw[<-hW4];clear hW4;have RP:jk W4 (w2.heap.size+2+1) 0 l H (w2.heap.size+2) (ii l 0):=⟨⟨⟨_,_,B4,rfl⟩,hS3.still k4⟩,⟨_,_,B4,by rw[qe l 0 (Nat.zero_le _)];rfl⟩,G4⟩;have HJ:=(show Hid _ from mE (w2.heap.size+2+1) 0 (w2.heap.size+2) l H W4 RP HG.out.ok HG.out.prf (by omega) (fun x hx=>by have:=HN.out x hx;omega));have kA:=(hk2.trans k3).trans k4;have A4:=kA.get hA (by simp);have F4:=kA.get hF (by simp);clear RP hwc;go_wp2_with fail;refine Calls.mono HJ.out ?_;rintro e w5 ⟨rfl,R5,k5⟩;have B5:=k5.get B4 (by simp);have A5:=k5.get A4 (by simp;omega);have F5:=k5.get F4 (by simp;omega);have b0:w5.cell? ⟨w2.heap.size+2+1,0,none⟩=some (.slice (H 6).ao l.length (H 6).cap):=by rw[aa B5];rfl
      have b1:w5.cell? ⟨w2.heap.size+2+1,1,none⟩=some (.slice a7 n7 c7):=by rw[aa B5];rfl
      have b2:w5.cell? ⟨w2.heap.size+2+1,2,none⟩=some (.slice (some ⟨w2.heap.size+2,0,none⟩) l.length l.length):=by rw[aa B5];rfl
      have a0:w5.cell? ⟨w.heap.size,0,none⟩=some (.slice none 0 0):=by rw[aa A5];rfl
      have a1:w5.cell? ⟨w.heap.size,1,none⟩=some (.slice none 0 0):=by rw[aa A5];rfl
      have a2:w5.cell? ⟨w.heap.size,2,none⟩=some (.slice none 0 0):=by rw[aa A5];rfl
      obtain⟨z0,z1,z2,z3⟩:=bR F5;have ya:=ak A5;have yf:=ak F5;have hA2w:=ae A5;have hF2w:=ae F5
      have KW:ab [] w w5:=by
        have q:=(hK.trans kA);exact⟨k5.os.trans q.os,k5.tape.trans q.tape,k5.output.trans q.output,Nat.le_trans q.size k5.size,fun k hk _=>(k5.block k (Nat.lt_of_lt_of_le hk q.size) (by simp;omega)).trans (q.block k hk (by simp))⟩
      have KS:=mU w5 w.heap.size (w.heap.size+1);have HS5:Hid (gO w5 l H):=R5.recd.sts;have HG5:=(show Hid _ from R5.arr);have HKS:=(show Hid _ from KS);clear R5 KS B5 A5 F5 B4 A4 F4 G4;go_wp2
      exact bodyPost_ret (v:=.tuple #[.agg #[.slice (H 6).ao l.length (H 6).cap,.slice a7 n7 c7,.slice (some ⟨w2.heap.size+2,0,none⟩) l.length l.length],.agg #[.int .i64 0,.string ⟨#[]⟩,.int .i64 0,.int .i64 0]]) (by simp[results,Tryz.results53,go_sem,a0,a1,a2,z0,z1,z2,z3]) rfl
        ⟨⟨H,w2.heap.size+2,⟨a7,n7,c7,rfl⟩,HS5.out.kept (HKS.out _ _ _ _ _ _ _) (fun k hk=>by have:=HN.out k hk;simp;omega),(HKS.out _ _ _ _ _ _ _).get HG5.out (by simp;omega),fun k hk=>by have:=HN.out k hk;omega,by omega⟩,lK KW (Nat.le_refl _) (Nat.le_succ _) _ _ _ _ _ _ _⟩
    · obtain⟨W4,hW4⟩:∃W4,W4=((W3.alloc (.cells #[.slice (H 6).ao l.length (H 6).cap,.slice a7 n7 c7,.slice (some ⟨w2.heap.size+2+1,0,none⟩) l.length l.length] 78)).alloc (.cells mc 38)).drew:=⟨_,rfl⟩
      have k4:ab [] W3 W4:=by rw[hW4];exact(((ab.refl [] _).alloc _).alloc _).drew
      have B4:W4.heap[w2.heap.size+2]?=some (.cells #[.slice (H 6).ao l.length (H 6).cap,.slice a7 n7 c7,.slice (some ⟨w2.heap.size+2+1,0,none⟩) l.length l.length] 78 (0,0)):=by
        rw[hW4];have e:=((ab.refl [] (W3.alloc (.cells #[.slice (H 6).ao l.length (H 6).cap,.slice a7 n7 c7,.slice (some ⟨w2.heap.size+2+1,0,none⟩) l.length l.length] 78))).alloc (.cells mc 38)).drew.get (heap_alloc_new _ _) (by simp);rw[hs3]at e;exact e
      have G4:W4.heap[w2.heap.size+2+1]?=some (.cells (jz (ii l 0)).toArray 38 (0,0)):=by
        rw[hW4,<-HMC.out];have e1:(W3.alloc (.cells #[.slice (H 6).ao l.length (H 6).cap,.slice a7 n7 c7,.slice (some ⟨w2.heap.size+2+1,0,none⟩) l.length l.length] 78)).heap.size=w2.heap.size+2+1:=by simp[hs3]
        have e:=heap_alloc_new (W3.alloc (.cells #[.slice (H 6).ao l.length (H 6).cap,.slice a7 n7 c7,.slice (some ⟨w2.heap.size+2+1,0,none⟩) l.length l.length] 78)) (.cells mc 38);rw[e1]at e;exact(ab.refl [] _).drew.get e (by simp)
      rw[<-hW4];clear hW4;have RP:jk W4 (w2.heap.size+2) 0 l H (w2.heap.size+2+1) (ii l 0):=⟨⟨⟨_,_,B4,rfl⟩,hS3.still k4⟩,⟨_,_,B4,by rw[qe l 0 (Nat.zero_le _)];rfl⟩,G4⟩;have HJ:=(show Hid _ from mE (w2.heap.size+2) 0 (w2.heap.size+2+1) l H W4 RP HG.out.ok HG.out.prf (by omega) (fun x hx=>by have:=HN.out x hx;omega));have kA:=(hk2.trans k3).trans k4;have A4:=kA.get hA (by simp);have F4:=kA.get hF (by simp);clear RP hwc;go_wp2_with fail;refine Calls.mono HJ.out ?_;rintro e w5 ⟨rfl,R5,k5⟩;have B5:=k5.get B4 (by simp);have A5:=k5.get A4 (by simp;omega);have F5:=k5.get F4 (by simp;omega);have b0:w5.cell? ⟨w2.heap.size+2,0,none⟩=some (.slice (H 6).ao l.length (H 6).cap):=by rw[aa B5];rfl
      have b1:w5.cell? ⟨w2.heap.size+2,1,none⟩=some (.slice a7 n7 c7):=by rw[aa B5];rfl
      have b2:w5.cell? ⟨w2.heap.size+2,2,none⟩=some (.slice (some ⟨w2.heap.size+2+1,0,none⟩) l.length l.length):=by rw[aa B5];rfl
      have a0:w5.cell? ⟨w.heap.size,0,none⟩=some (.slice none 0 0):=by rw[aa A5];rfl
      have a1:w5.cell? ⟨w.heap.size,1,none⟩=some (.slice none 0 0):=by rw[aa A5];rfl
      have a2:w5.cell? ⟨w.heap.size,2,none⟩=some (.slice none 0 0):=by rw[aa A5];rfl
      obtain⟨z0,z1,z2,z3⟩:=bR F5;have ya:=ak A5;have yf:=ak F5;have hA2w:=ae A5;have hF2w:=ae F5
      have KW:ab [] w w5:=by
        have q:=(hK.trans kA);exact⟨k5.os.trans q.os,k5.tape.trans q.tape,k5.output.trans q.output,Nat.le_trans q.size k5.size,fun k hk _=>(k5.block k (Nat.lt_of_lt_of_le hk q.size) (by simp;omega)).trans (q.block k hk (by simp))⟩
      have KS:=mU w5 w.heap.size (w.heap.size+1);have HS5:Hid (gO w5 l H):=R5.recd.sts;have HG5:=(show Hid _ from R5.arr);have HKS:=(show Hid _ from KS);clear R5 KS B5 A5 F5 B4 A4 F4 G4;go_wp2
      exact bodyPost_ret (v:=.tuple #[.agg #[.slice (H 6).ao l.length (H 6).cap,.slice a7 n7 c7,.slice (some ⟨w2.heap.size+2+1,0,none⟩) l.length l.length],.agg #[.int .i64 0,.string ⟨#[]⟩,.int .i64 0,.int .i64 0]]) (by simp[results,Tryz.results53,go_sem,a0,a1,a2,z0,z1,z2,z3]) rfl
        ⟨⟨H,w2.heap.size+2+1,⟨a7,n7,c7,rfl⟩,HS5.out.kept (HKS.out _ _ _ _ _ _ _) (fun k hk=>by have:=HN.out k hk;simp;omega),(HKS.out _ _ _ _ _ _ _).get HG5.out (by simp;omega),fun k hk=>by have:=HN.out k hk;omega,by omega⟩,lK KW (Nat.le_refl _) (Nat.le_succ _) _ _ _ _ _ _ _⟩
    · obtain⟨W4,hW4⟩:∃W4,W4=((W3.alloc (.cells #[.slice (H 6).ao l.length (H 6).cap,.slice a7 n7 c7,.slice (some ⟨w2.heap.size+2+1,0,none⟩) l.length l.length] 78)).alloc (.cells mc 38)).drew:=⟨_,rfl⟩
      have k4:ab [] W3 W4:=by rw[hW4];exact(((ab.refl [] _).alloc _).alloc _).drew
      have B4:W4.heap[w2.heap.size+2]?=some (.cells #[.slice (H 6).ao l.length (H 6).cap,.slice a7 n7 c7,.slice (some ⟨w2.heap.size+2+1,0,none⟩) l.length l.length] 78 (0,0)):=by
        rw[hW4];have e:=((ab.refl [] (W3.alloc (.cells #[.slice (H 6).ao l.length (H 6).cap,.slice a7 n7 c7,.slice (some ⟨w2.heap.size+2+1,0,none⟩) l.length l.length] 78))).alloc (.cells mc 38)).drew.get (heap_alloc_new _ _) (by simp);rw[hs3]at e;exact e
      have G4:W4.heap[w2.heap.size+2+1]?=some (.cells (jz (ii l 0)).toArray 38 (0,0)):=by
        rw[hW4,<-HMC.out];have e1:(W3.alloc (.cells #[.slice (H 6).ao l.length (H 6).cap,.slice a7 n7 c7,.slice (some ⟨w2.heap.size+2+1,0,none⟩) l.length l.length] 78)).heap.size=w2.heap.size+2+1:=by simp[hs3]
        have e:=heap_alloc_new (W3.alloc (.cells #[.slice (H 6).ao l.length (H 6).cap,.slice a7 n7 c7,.slice (some ⟨w2.heap.size+2+1,0,none⟩) l.length l.length] 78)) (.cells mc 38);rw[e1]at e;exact(ab.refl [] _).drew.get e (by simp)
      rw[<-hW4];clear hW4;have RP:jk W4 (w2.heap.size+2) 0 l H (w2.heap.size+2+1) (ii l 0):=⟨⟨⟨_,_,B4,rfl⟩,hS3.still k4⟩,⟨_,_,B4,by rw[qe l 0 (Nat.zero_le _)];rfl⟩,G4⟩;have HJ:=(show Hid _ from mE (w2.heap.size+2) 0 (w2.heap.size+2+1) l H W4 RP HG.out.ok HG.out.prf (by omega) (fun x hx=>by have:=HN.out x hx;omega));have kA:=(hk2.trans k3).trans k4;have A4:=kA.get hA (by simp);have F4:=kA.get hF (by simp);clear RP hwc;go_wp2_with fail;refine Calls.mono HJ.out ?_;rintro e w5 ⟨rfl,R5,k5⟩;have B5:=k5.get B4 (by simp);have A5:=k5.get A4 (by simp;omega);have F5:=k5.get F4 (by simp;omega);have b0:w5.cell? ⟨w2.heap.size+2,0,none⟩=some (.slice (H 6).ao l.length (H 6).cap):=by rw[aa B5];rfl
      have b1:w5.cell? ⟨w2.heap.size+2,1,none⟩=some (.slice a7 n7 c7):=by rw[aa B5];rfl
      have b2:w5.cell? ⟨w2.heap.size+2,2,none⟩=some (.slice (some ⟨w2.heap.size+2+1,0,none⟩) l.length l.length):=by rw[aa B5];rfl
      have a0:w5.cell? ⟨w.heap.size,0,none⟩=some (.slice none 0 0):=by rw[aa A5];rfl
      have a1:w5.cell? ⟨w.heap.size,1,none⟩=some (.slice none 0 0):=by rw[aa A5];rfl
      have a2:w5.cell? ⟨w.heap.size,2,none⟩=some (.slice none 0 0):=by rw[aa A5];rfl
      obtain⟨z0,z1,z2,z3⟩:=bR F5;have ya:=ak A5;have yf:=ak F5;have hA2w:=ae A5;have hF2w:=ae F5
      have KW:ab [] w w5:=by
        have q:=(hK.trans kA);exact⟨k5.os.trans q.os,k5.tape.trans q.tape,k5.output.trans q.output,Nat.le_trans q.size k5.size,fun k hk _=>(k5.block k (Nat.lt_of_lt_of_le hk q.size) (by simp;omega)).trans (q.block k hk (by simp))⟩
      have KS:=mU w5 w.heap.size (w.heap.size+1);have HS5:Hid (gO w5 l H):=R5.recd.sts;have HG5:=(show Hid _ from R5.arr);have HKS:=(show Hid _ from KS);clear R5 KS B5 A5 F5 B4 A4 F4 G4;go_wp2
      exact bodyPost_ret (v:=.tuple #[.agg #[.slice (H 6).ao l.length (H 6).cap,.slice a7 n7 c7,.slice (some ⟨w2.heap.size+2+1,0,none⟩) l.length l.length],.agg #[.int .i64 0,.string ⟨#[]⟩,.int .i64 0,.int .i64 0]]) (by simp[results,Tryz.results53,go_sem,a0,a1,a2,z0,z1,z2,z3]) rfl
        ⟨⟨H,w2.heap.size+2+1,⟨a7,n7,c7,rfl⟩,HS5.out.kept (HKS.out _ _ _ _ _ _ _) (fun k hk=>by have:=HN.out k hk;simp;omega),(HKS.out _ _ _ _ _ _ _).get HG5.out (by simp;omega),fun k hk=>by have:=HN.out k hk;omega,by omega⟩,lK KW (Nat.le_refl _) (Nat.le_succ _) _ _ _ _ _ _ _⟩
structure vx(w:World)(x:Nat)(fs:Fs)(l:List St)(H:Nat->Hd)(g:Nat):Prop where
  ver:∃(a7:Option Addr) (n7 c7:Nat),na w x fs true (.slice (H 6).ao l.length (H 6).cap) (.slice a7 n7 c7) (.slice (some ⟨g,0,none⟩) l.length l.length)
  sts:gO w l H
  arr:w.heap[g]?=some (.cells (jz (jy l l.length)).toArray 38 (0,0))
  far:x≠g/\∀k,fm H k->k≠x
theorem vx.anyR{w:World}{x:Nat}{fs:Fs}{l:List St}{H:Nat->Hd}{g:Nat}(h:vx w x fs l H g):bW w x fs:=by
  obtain⟨a7,n7,c7,h⟩:=h.ver;exact h.anyR
theorem vx.still{w w':World}{x:Nat}{fs:Fs}{l:List St}{H:Nat->Hd}{g:Nat}(h:vx w x fs l H g)(k:ab [] w w'):vx w' x fs l H g:=by
  obtain⟨a7,n7,c7,hv⟩:=h.ver;exact⟨⟨a7,n7,c7,bm.kept hv k (by simp)⟩,h.sts.still k,k.get h.arr (by simp),h.far⟩
theorem DI{S:List Nat}{w w2:World}{B:Nat}(h:ab S w w2)(hB:w.heap.size<=B)(v0 v1 v2 v3:Value) :
    ab S w ((((w2.setCell ⟨B,0,none⟩ v0).setCell ⟨B,1,none⟩ v1).setCell ⟨B,2,none⟩ v2).setCell ⟨B,3,none⟩ v3) :=
  (((h.setCell (Or.inr hB) _).setCell (Or.inr hB) _).setCell (Or.inr hB) _).setCell (Or.inr hB) _
theorem tO(w2:World)(B:Nat)(v0 v1 v2 v3:Value) :
    ab [B] w2 ((((w2.setCell ⟨B,0,none⟩ v0).setCell ⟨B,1,none⟩ v1).setCell ⟨B,2,none⟩ v2).setCell ⟨B,3,none⟩ v3) :=
  ((((ab.refl [B] w2).setCell (Or.inl (by simp)) _).setCell (Or.inl (by simp)) _).setCell (Or.inl (by simp)) _).setCell (Or.inl (by simp)) _
theorem pb{S:List Nat}{w w2:World}{A B:Nat}(h:ab S w w2)(hA:A∈S∨w.heap.size<=A)(hB:B∈S∨w.heap.size<=B)(u0 u1 u2 u3 v0 v1 v2 v3:Value) :
    ab S w ((((((((w2.setCell ⟨A,9,none⟩ u0).setCell ⟨A,10,none⟩ u1).setCell ⟨A,11,none⟩ u2).setCell ⟨A,12,none⟩ u3).setCell ⟨B,0,none⟩ v0).setCell ⟨B,1,none⟩ v1).setCell ⟨B,2,none⟩ v2).setCell ⟨B,3,none⟩ v3) :=
  (((((((h.setCell hA _).setCell hA _).setCell hA _).setCell hA _).setCell hB _).setCell hB _).setCell hB _).setCell hB _
def Cp(fs:Fs)(k0 x:Nat)(w:World)(e:Ending)(w':World):Prop :=
  (if((cO fs k0).1.1==0)=true then e=.returned (.tuple #[gu cJ,.int .i64 0])/\∃H g,vx w' x fs (cO fs k0).2.2.sts H g/\w.heap.size<=g/\∀k,fm H k->w.heap.size<=k
   else e=.returned (.tuple #[gu (cO fs k0).1,.int .i64 6])/\lN w' x fs)/\ab [x] w w'
set_option maxRecDepth 100000 in
theorem Cb(x k0:Nat)(fs:Fs)(n:ByteArray)(w:World)(h:bW w x fs)(hf:bu fs n=k0)(hk0:k0<fs.length)(hsz:∀j,j<fs.length->(aj fs j).size<=1024) :
    Calls Tryz.prog 36 #[.pointer (some ⟨x,0,none⟩),.string n] w fun e w'=>Cp fs k0 x w e w':=by
  have hxw:=h.lt;obtain⟨W,hW⟩:∃W,W=w.alloc (.cells #[.int .i64 0,.string ⟨#[]⟩,.int .i64 0,.int .i64 0] 87):=⟨_,rfl⟩
  have hK:ab [] w W:=by rw[hW];exact(ab.refl [] _).alloc _
  have hF:W.heap[w.heap.size]?=some (.cells a9 87 (0,0)):=by rw[hW];exact heap_alloc_new _ _
  have hV:=h.kept hK (by simp);have HW:=(show Hid _ from hW.symm)
  have FA:Calls Tryz.prog 50 #[.pointer (some ⟨x,0,none⟩),.string n] W fun e w'=>e=.returned (.int .i64 k0)/\w'=W:=by
    obtain⟨rep,a,b,c,hv⟩:=hV;rw[<-hf];exact kl x _ fs _ n W hv
  have HFA:=(show Hid _ from FA);have DA:=tB x fs W hV;have HDA:=(show Hid _ from DA);clear FA DA hW;have hki:¬((k0:Int)<0):=by omega
  have OA:=fun(w2:World) (hB2:lN w2 x fs)=>KJ x _ k0 fs _ w2 hB2 hk0 hsz
  unfold Af at OA;have HOA:=(show Hid _ from OA);clear OA;unfold Cp;generalize cO fs k0=R at *;obtain⟨⟨r,pf,pl,pc⟩,bg',d'⟩:=R;simp only[gu,cJ]at HOA ⊢;generalize d'.sts=l at *;go_enter Tryz.func36,Tryz.ntmps36;go_wp2_with fail;rw[HW.out];refine Calls.mono HFA.out ?_;rintro e w9 ⟨rfl,rfl⟩;go_wp2_with fail;refine Calls.mono HDA.out ?_;rintro e w2 ⟨rfl,hB2,hk2⟩;have hF2:=hk2.get hF (by simp;omega);go_wp2_with fail;refine Calls.mono (HOA.out _ hB2) ?_;rintro e w3 ⟨hcase,hk3⟩;have hF3:=hk3.get hF2 (by simp);have hB3:=hB2.kept hk3 (by simp);have hKx:ab [x] w w3:=((hK.mono (by simp)).trans hk2).trans (hk3.mono (by simp));obtain⟨z0,z1,z2,z3⟩:=bR hF3;have yf:=ak hF3;have hF3w:=ae hF3;have hne:w.heap.size≠x:=by omega
  have hne2:x≠w.heap.size:=by omega
  cases hr:(r==0)
  · have hr':(r != 0)=true:=by simp[bne,hr]
    simp only[hr,Bool.false_eq_true,if_false]at hcase ⊢;subst hcase;have HB3:=(show Hid _ from hB3);clear hB3 hB2 hV;go_wp2
    exact bodyPost_ret (v:=.tuple #[.agg #[.int .i64 r,.string pf,.int .i64 pl,.int .i64 pc],.int .i64 6]) (by simp[results,Tryz.results36,go_sem,z0,z1,z2,z3,hF3w]) rfl
      ⟨⟨rfl,HB3.out.kept (((tO w3 w.heap.size _ _ _ _).alloc _).alloc _) (by simp;omega)⟩,((DI hKx (Nat.le_refl _) _ _ _ _).alloc _).alloc _⟩
  · have hr':(r != 0)=false:=by simp[bne,hr]
    simp only[hr,if_true]at hcase ⊢;obtain⟨H,g,a7,n7,c7,rfl,hS,hA,hN,hg⟩:=hcase;have hz9:=ae hF;have hz2:=hk2.size;have hz3:=hk3.size;obtain⟨c9,c10,c11,c12⟩:=na.cells hB3;have yv:=bm.free hB3;have HT:=(show Hid _ from na.turn hB3 true (.slice (H 6).ao l.length (H 6).cap) (.slice a7 n7 c7) (.slice (some ⟨g,0,none⟩) l.length l.length));have HS3:=(show Hid _ from hS);have HA3:=(show Hid _ from hA);have HN3:=(show Hid _ from hN);have hxw3:x<w3.heap.size:=bm.lt hB3;clear hB3 hB2 hV hS hA hN;unfold Jl at c10 c11 c12;unfold zR at HT;go_wp2
    exact bodyPost_ret (v:=.tuple #[.agg #[.int .i64 0,.string ⟨#[]⟩,.int .i64 0,.int .i64 0],.int .i64 0]) (by simp[results,Tryz.results36,go_sem,z0,z1,z2,z3,hF3w]) rfl
      ⟨⟨rfl,H,g,⟨⟨a7,n7,c7,bm.kept HT.out (((tO _ w.heap.size _ _ _ _).alloc _).alloc _) (by simp;omega)⟩,HS3.out.kept (((pb (ab.refl [x,w.heap.size] w3) (Or.inl (by simp)) (Or.inl (by simp)) _ _ _ _ _ _ _ _).alloc _).alloc _) (fun k hk=>by have:=HN3.out k hk;simp;omega),(((pb (ab.refl [x,w.heap.size] w3) (Or.inl (by simp)) (Or.inl (by simp)) _ _ _ _ _ _ _ _).alloc _).alloc _).get HA3.out (by simp;omega),⟨by omega,fun k hk=>by have:=HN3.out k hk;omega⟩⟩,by omega,fun k hk=>by have:=HN3.out k hk;omega⟩,
        ((pb hKx (Or.inl (by simp)) (Or.inr (Nat.le_refl _)) _ _ _ _ _ _ _ _).alloc _).alloc _⟩
end Go.Proofs.YtpddjjabfbfifaaGreat

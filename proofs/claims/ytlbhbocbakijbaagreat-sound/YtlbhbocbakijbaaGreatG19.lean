import Derived.Test.YtlbhbocbakijbaaGreatRows
import Derived.ProofKit
import Derived.OpenShut
import Derived.ShutString
import Derived.ChangeOld
import Derived.Below
import Derived.SizedLaws
import Derived.SliceStrings
import Derived.Test.YtlbhbocbakijbaaGreatG18
namespace Go.Proofs.YtlbhbocbakijbaaGreat
open Go.RowKit
set_option maxHeartbeats 0
theorem zw(n:Nat):madeCells (Value.agg #[.string ⟨#[]⟩,.int .i64 0,.int .i64 0,.string ⟨#[]⟩,.int .i64 0,.int .i64 0]).cells (n*6)=(d8 (List.replicate n jX)).toArray:=by
  have hc:(Value.agg #[.string ⟨#[]⟩,.int .i64 0,.int .i64 0,.string ⟨#[]⟩,.int .i64 0,.int .i64 0]).cells=(gB jX).toArray:=by rfl
  rw[hc]
  apply Array.ext
  · rw[size_madeCells];simp[uV]
  · intro i h1 h2
    rw[size_madeCells]at h1;have hk:i / 6<(List.replicate n jX).length:=by simp;omega
    have e:=s9 (List.replicate n jX) (i / 6) hk (i % 6) (by omega);have ei:i / 6*6+i % 6=i:=by omega
    have e2:(List.replicate n jX)[i / 6]=jX:=by simp
    rw[ei,e2]at e;have h3:i<(d8 (List.replicate n jX)).length:=by simpa using h2
    have e3:(d8 (List.replicate n jX)).toArray[i]=(d8 (List.replicate n jX))[i]:=by simp
    rw[e3];have e4:some (d8 (List.replicate n jX))[i]=(gB jX)[i % 6]?:=by rw[<-e,List.getElem?_eq_getElem h3]
    have l:some (madeCells (gB jX).toArray (n*6))[i]=(gB jX)[i % 6]?:=by
      have hj:i % 6=0∨i % 6=1∨i % 6=2∨i % 6=3∨i % 6=4∨i % 6=5:=by omega
      have hs:(gB jX).toArray.size=6:=rfl;simp only[madeCells,Array.getElem_map,Array.getElem_range,hs]
      rcases hj with h | h | h | h | h | h <;> rw[h] <;> rfl
    exact Option.some.inj (l.trans e4.symm)
theorem Cv(l:List St):fh l 0=List.replicate l.length jX:=by simp[fh,aK]
theorem iX{w w2:World}{A B:Nat}(h:aa [] w w2)(hA:w.heap.size<=A)(hB:w.heap.size<=B)(u0 u1 u2 v0 v1 v2 v3:Value) :
    aa [] w (((((((w2.setCell ⟨A,0,none⟩ u0).setCell ⟨A,1,none⟩ u1).setCell ⟨A,2,none⟩ u2).setCell ⟨B,0,none⟩ v0).setCell ⟨B,1,none⟩ v1).setCell ⟨B,2,none⟩ v2).setCell ⟨B,3,none⟩ v3) :=
  ((((((h.setCell (Or.inr hA) _).setCell (Or.inr hA) _).setCell (Or.inr hA) _).setCell (Or.inr hB) _).setCell (Or.inr hB) _).setCell (Or.inr hB) _).setCell (Or.inr hB) _
theorem jI(w2:World)(A B:Nat)(u0 u1 u2 v0 v1 v2 v3:Value) :
    aa [A,B] w2 (((((((w2.setCell ⟨A,0,none⟩ u0).setCell ⟨A,1,none⟩ u1).setCell ⟨A,2,none⟩ u2).setCell ⟨B,0,none⟩ v0).setCell ⟨B,1,none⟩ v1).setCell ⟨B,2,none⟩ v2).setCell ⟨B,3,none⟩ v3) :=
  (((((((aa.refl [A,B] w2).setCell (Or.inl (by simp)) _).setCell (Or.inl (by simp)) _).setCell (Or.inl (by simp)) _).setCell (Or.inl (by simp)) _).setCell (Or.inl (by simp)) _).setCell (Or.inl (by simp)) _).setCell (Or.inl (by simp)) _
def vy(fs:Fs)(k0:Nat)(w:World)(e:Ending)(w':World):Prop :=
  (if((cy fs k0).1.1==0)=true then ∃(H:Nat->Hd) (g:Nat) (a7:Option Addr) (n7 c7:Nat),
      e=.returned (.tuple #[.agg #[.slice (H 6).ao (cy fs k0).2.2.sts.length (H 6).cap,.slice a7 n7 c7,.slice (some ⟨g,0,none⟩) (cy fs k0).2.2.sts.length (cy fs k0).2.2.sts.length],eM bT]) /\
      eU w' (cy fs k0).2.2.sts H/\w'.heap[g]?=some (.cells (d8 (aK (cy fs k0).2.2.sts (cy fs k0).2.2.sts.length)).toArray 53 (0,0))/\(∀k,cK H k->w.heap.size<=k)/\w.heap.size<=g
   else e=.returned (.tuple #[.agg #[.slice none 0 0,.slice none 0 0,.slice none 0 0],eM (cy fs k0).1]))/\aa [] w w'
set_option maxRecDepth 100000 in
theorem Fq(v tt k0:Nat)(fs:Fs)(more:List Value)(w:World)
    (ht:bz w v tt fs more) (hk0:k0<fs.length) (hsz:∀j,j<fs.length->(aj fs j).size<=1024) :
    Calls Tryz.prog 42 #[.pointer (some ⟨v,0,none⟩),.int .i64 k0] w fun e w'=>vy fs k0 w e w':=by
  have hvw:=ht.lt;obtain⟨i0,hi,hz0,hz1,hz2⟩:=info_parts E3;have HG:=(show Hid _ from uP fs hsz k0);obtain⟨W,hW⟩:∃W,W=(w.alloc (.cells #[.slice none 0 0,.slice none 0 0,.slice none 0 0] 94)).alloc (.cells #[.int .i64 0,.string ⟨#[]⟩,.int .i64 0,.int .i64 0] 48):=⟨_,rfl⟩
  have hK:aa [] w W:=by rw[hW];exact((aa.refl [] _).alloc _).alloc _
  have hA:W.heap[w.heap.size]?=some (.cells #[.slice none 0 0,.slice none 0 0,.slice none 0 0] 94 (0,0)):=by
    rw[hW];exact((aa.refl [] _).alloc _).get (heap_alloc_new _ _) (by simp)
  have hF:W.heap[w.heap.size+1]?=some (.cells aO 48 (0,0)):=by
    rw[hW];have e:(w.alloc (.cells #[.slice none 0 0,.slice none 0 0,.slice none 0 0] 94)).heap.size=w.heap.size+1:=by simp
    rw[<-e];exact heap_alloc_new _ _
  have HW:=(show Hid _ from hW.symm);have RD:=CI v tt k0 fs more W (ht.kept hK (by simp)) hk0 hsz;have HRD:=(show Hid _ from RD);clear RD hW;unfold vy;generalize cy fs k0=R at *;obtain⟨⟨r,pf,pl,pc⟩,bg',d'⟩:=R;simp only[eM,bT]at HRD HG ⊢;generalize d'.sts=l at *;generalize d'.rbl=rb at *;go_enter Tryz.func42,Tryz.ntmps42;go_wp2_with fail;rw[HW.out];refine Calls.mono HRD.out ?_;rintro e w2 ⟨hcase,hk2⟩;have hA2:=hk2.get hA (by simp);have hF2:=hk2.get hF (by simp);have hz:=hk2.size;have hWz:=ac hF
  cases hr:(r==0)
  · have hr':(r != 0)=true:=by simp[bne,hr]
    simp only[hr,Bool.false_eq_true,if_false]at hcase ⊢;subst hcase;have a0:w2.cell? ⟨w.heap.size,0,none⟩=some (.slice none 0 0):=by rw[ab hA2];rfl
    have a1:w2.cell? ⟨w.heap.size,1,none⟩=some (.slice none 0 0):=by rw[ab hA2];rfl
    have a2:w2.cell? ⟨w.heap.size,2,none⟩=some (.slice none 0 0):=by rw[ab hA2];rfl
    obtain⟨z0,z1,z2,z3⟩:=bt hF2;have ya:=an hA2;have yf:=an hF2;have hA2w:=ac hA2;have hF2w:=ac hF2;go_wp2_with fail
    go_region
    all_goals go_wp2
    all_goals exact bodyPost_ret (v:=.tuple #[.agg #[.slice none 0 0,.slice none 0 0,.slice none 0 0],.agg #[.int .i64 r,.string pf,.int .i64 pl,.int .i64 pc]]) (by simp[results,Tryz.results42,go_sem,a0,a1,a2,z0,z1,z2,z3,hA2w,hF2w]) rfl ⟨rfl,(((iX (hK.trans hk2) (Nat.le_refl _) (Nat.le_succ _) _ _ _ _ _ _ _).alloc _).alloc _).drew⟩
  · have hr':(r != 0)=false:=by simp[bne,hr]
    simp only[hr,if_true]at hcase ⊢;obtain⟨H0,rfl,hS0,hN0⟩:=hcase;obtain⟨hS,hT⟩:=hS0.trim;have hE6:H0 6=nY l H0 6:=(js l H0 6 (Or.inl rfl)).symm;rw[hE6];have hN:∀k,cK (nY l H0) k->k<w2.heap.size/\w.heap.size+2<=k:=fun k hk=>⟨(hT k hk).1,by have:=hN0 k (hT k hk).2;omega⟩
    clear hS0 hN0 hT hE6;generalize nY l H0=H at *;generalize (H0 7).ao=a7 at *;generalize (H0 7).cap=c7 at *;generalize rb.length=n7 at *;clear H0;have HN:=(show Hid _ from hN);have hlen:=HG.out.ok.len;obtain⟨W3,hW3⟩:∃W3,W3=(w2.alloc (.cells #[.slice (H 6).ao l.length (H 6).cap,.slice a7 n7 c7] 92)).alloc (.cells #[.int .i64 0,.string ⟨#[]⟩,.int .i64 0,.int .i64 0] 48):=⟨_,rfl⟩
    have k3:aa [] w2 W3:=by rw[hW3];exact((aa.refl [] _).alloc _).alloc _
    have B3:W3.heap[w2.heap.size]?=some (.cells #[.slice (H 6).ao l.length (H 6).cap,.slice a7 n7 c7] 92 (0,0)):=by
      rw[hW3];exact((aa.refl [] _).alloc _).get (heap_alloc_new _ _) (by simp)
    have hs3:W3.heap.size=w2.heap.size+2:=by rw[hW3];simp
    have hS3:=hS.still k3;have R3:bZ W3 w2.heap.size 0 l H:=⟨⟨_,_,B3,rfl⟩,hS3⟩;have r0:W3.cell? ⟨w2.heap.size,0,none⟩=some (.slice (H 6).ao l.length (H 6).cap):=by rw[ab B3];rfl
    have r1:W3.cell? ⟨w2.heap.size,1,none⟩=some (.slice a7 n7 c7):=by rw[ab B3];rfl
    have HCA:Hid (∀w',aa [] W3 w'->Calls Tryz.prog 77 #[.pointer (some ⟨w2.heap.size,0,none⟩)] w' fun e w''=>e=.returned (.int .i64 l.length)/\w''=w'):=fun w' q=>cL w2.heap.size 0 l H w' (R3.still q)
    have HRR:Hid (∀w',aa [] W3 w'->w'.cell? ⟨w2.heap.size,0,none⟩=some (.slice (H 6).ao l.length (H 6).cap)/\w'.cell? ⟨w2.heap.size,1,none⟩=some (.slice a7 n7 c7)):=fun w' q=>by
      have q2:=q.get B3 (by simp);exact⟨by rw[ab q2];rfl,by rw[ab q2];rfl⟩
    have m1:=fun w=>cA (P:=Tryz.prog) w 32 53 i0 _ Tryz.underlying32 hi hz0 l.length 6 hz1 (by rw[hz2];omega) (by omega)
    obtain⟨mc,hmc⟩:∃mc,mc=madeCells (Value.agg #[.string ⟨#[]⟩,.int .i64 0,.int .i64 0,.string ⟨#[]⟩,.int .i64 0,.int .i64 0]).cells (l.length*6):=⟨_,rfl⟩
    have HMC:Hid (mc=(d8 (fh l 0)).toArray):=by show _=_;rw[hmc,zw,Cv]
    rw[<-hmc]at m1;clear hmc hN hS;have HW3:=(show Hid _ from hW3.symm);clear hW3
    go_upto_region 4 with fail
    rw[HW3.out]
    go_region_held3 (fun w'=>w'.cell? ⟨w2.heap.size,0,none⟩=some (.slice (H 6).ao l.length (H 6).cap)/\w'.cell? ⟨w2.heap.size,1,none⟩=some (.slice a7 n7 c7)) (go_keep) (first | (go_at_call 77;refine(HCA.out _ (by first | exact(aa.refl [] W3).drew | exact((aa.refl [] W3).alloc _).drew | exact(aa.refl [] W3).drew.alloc _)).mono ?_;rintro e wc ⟨rfl,hwc⟩;rw[hwc]))
    · obtain⟨W4,hW4⟩:∃W4,W4=((W3.alloc (.cells mc 53)).alloc (.cells #[.slice (H 6).ao l.length (H 6).cap,.slice a7 n7 c7,.slice (some ⟨w2.heap.size+2,0,none⟩) l.length l.length] 94)).drew:=⟨_,rfl⟩
      have k4:aa [] W3 W4:=by rw[hW4];exact(((aa.refl [] _).alloc _).alloc _).drew
      have B4:W4.heap[w2.heap.size+2+1]?=some (.cells #[.slice (H 6).ao l.length (H 6).cap,.slice a7 n7 c7,.slice (some ⟨w2.heap.size+2,0,none⟩) l.length l.length] 94 (0,0)):=by
        rw[hW4];have e1:(W3.alloc (.cells mc 53)).heap.size=w2.heap.size+2+1:=by simp[hs3]
        have e:=heap_alloc_new (W3.alloc (.cells mc 53)) (.cells #[.slice (H 6).ao l.length (H 6).cap,.slice a7 n7 c7,.slice (some ⟨w2.heap.size+2,0,none⟩) l.length l.length] 94);rw[e1]at e;exact(aa.refl [] _).drew.get e (by simp)
      have G4:W4.heap[w2.heap.size+2]?=some (.cells (d8 (fh l 0)).toArray 53 (0,0)):=by
        rw[hW4,<-HMC.out];have e:=((aa.refl [] (W3.alloc (.cells mc 53))).alloc (.cells #[.slice (H 6).ao l.length (H 6).cap,.slice a7 n7 c7,.slice (some ⟨w2.heap.size+2,0,none⟩) l.length l.length] 94)).drew.get (heap_alloc_new _ _) (by simp);rw[hs3]at e;exact e
      rw[<-hW4];clear hW4;have RP:eR W4 (w2.heap.size+2+1) 0 l H (w2.heap.size+2) (fh l 0):=⟨⟨⟨_,_,B4,rfl⟩,hS3.still k4⟩,⟨_,_,B4,by rw[mG l 0 (Nat.zero_le _)];rfl⟩,G4⟩;have HJ:=(show Hid _ from jA (w2.heap.size+2+1) 0 (w2.heap.size+2) l H W4 RP HG.out.ok HG.out.prf (by omega) (fun x hx=>by have:=HN.out x hx;omega));have kA:=(hk2.trans k3).trans k4;have A4:=kA.get hA (by simp);have F4:=kA.get hF (by simp);clear RP hwc;go_wp2_with fail;refine Calls.mono HJ.out ?_;rintro e w5 ⟨rfl,R5,k5⟩;have B5:=k5.get B4 (by simp);have A5:=k5.get A4 (by simp;omega);have F5:=k5.get F4 (by simp;omega);have b0:w5.cell? ⟨w2.heap.size+2+1,0,none⟩=some (.slice (H 6).ao l.length (H 6).cap):=by rw[ab B5];rfl
      have b1:w5.cell? ⟨w2.heap.size+2+1,1,none⟩=some (.slice a7 n7 c7):=by rw[ab B5];rfl
      have b2:w5.cell? ⟨w2.heap.size+2+1,2,none⟩=some (.slice (some ⟨w2.heap.size+2,0,none⟩) l.length l.length):=by rw[ab B5];rfl
      have a0:w5.cell? ⟨w.heap.size,0,none⟩=some (.slice none 0 0):=by rw[ab A5];rfl
      have a1:w5.cell? ⟨w.heap.size,1,none⟩=some (.slice none 0 0):=by rw[ab A5];rfl
      have a2:w5.cell? ⟨w.heap.size,2,none⟩=some (.slice none 0 0):=by rw[ab A5];rfl
      obtain⟨z0,z1,z2,z3⟩:=bt F5;have ya:=an A5;have yf:=an F5;have hA2w:=ac A5;have hF2w:=ac F5
      have KW:aa [] w w5:=by
        have q:=(hK.trans kA);exact⟨k5.os.trans q.os,k5.tape.trans q.tape,k5.output.trans q.output,Nat.le_trans q.size k5.size,fun k hk _=>(k5.block k (Nat.lt_of_lt_of_le hk q.size) (by simp;omega)).trans (q.block k hk (by simp))⟩
      have KS:=jI w5 w.heap.size (w.heap.size+1);have HS5:Hid (eU w5 l H):=R5.recd.sts;have HG5:=(show Hid _ from R5.arr);have HKS:=(show Hid _ from KS);clear R5 KS B5 A5 F5 B4 A4 F4 G4;go_wp2
      exact bodyPost_ret (v:=.tuple #[.agg #[.slice (H 6).ao l.length (H 6).cap,.slice a7 n7 c7,.slice (some ⟨w2.heap.size+2,0,none⟩) l.length l.length],.agg #[.int .i64 0,.string ⟨#[]⟩,.int .i64 0,.int .i64 0]]) (by simp[results,Tryz.results42,go_sem,a0,a1,a2,z0,z1,z2,z3]) rfl
        ⟨⟨H,w2.heap.size+2,⟨a7,n7,c7,rfl⟩,HS5.out.kept (HKS.out _ _ _ _ _ _ _) (fun k hk=>by have:=HN.out k hk;simp;omega),(HKS.out _ _ _ _ _ _ _).get HG5.out (by simp;omega),fun k hk=>by have:=HN.out k hk;omega,by omega⟩,iX KW (Nat.le_refl _) (Nat.le_succ _) _ _ _ _ _ _ _⟩
    · obtain⟨W4,hW4⟩:∃W4,W4=((W3.alloc (.cells #[.slice (H 6).ao l.length (H 6).cap,.slice a7 n7 c7,.slice (some ⟨w2.heap.size+2+1,0,none⟩) l.length l.length] 94)).alloc (.cells mc 53)).drew:=⟨_,rfl⟩
      have k4:aa [] W3 W4:=by rw[hW4];exact(((aa.refl [] _).alloc _).alloc _).drew
      have B4:W4.heap[w2.heap.size+2]?=some (.cells #[.slice (H 6).ao l.length (H 6).cap,.slice a7 n7 c7,.slice (some ⟨w2.heap.size+2+1,0,none⟩) l.length l.length] 94 (0,0)):=by
        rw[hW4];have e:=((aa.refl [] (W3.alloc (.cells #[.slice (H 6).ao l.length (H 6).cap,.slice a7 n7 c7,.slice (some ⟨w2.heap.size+2+1,0,none⟩) l.length l.length] 94))).alloc (.cells mc 53)).drew.get (heap_alloc_new _ _) (by simp);rw[hs3]at e;exact e
      have G4:W4.heap[w2.heap.size+2+1]?=some (.cells (d8 (fh l 0)).toArray 53 (0,0)):=by
        rw[hW4,<-HMC.out];have e1:(W3.alloc (.cells #[.slice (H 6).ao l.length (H 6).cap,.slice a7 n7 c7,.slice (some ⟨w2.heap.size+2+1,0,none⟩) l.length l.length] 94)).heap.size=w2.heap.size+2+1:=by simp[hs3]
        have e:=heap_alloc_new (W3.alloc (.cells #[.slice (H 6).ao l.length (H 6).cap,.slice a7 n7 c7,.slice (some ⟨w2.heap.size+2+1,0,none⟩) l.length l.length] 94)) (.cells mc 53);rw[e1]at e;exact(aa.refl [] _).drew.get e (by simp)
      rw[<-hW4];clear hW4;have RP:eR W4 (w2.heap.size+2) 0 l H (w2.heap.size+2+1) (fh l 0):=⟨⟨⟨_,_,B4,rfl⟩,hS3.still k4⟩,⟨_,_,B4,by rw[mG l 0 (Nat.zero_le _)];rfl⟩,G4⟩;have HJ:=(show Hid _ from jA (w2.heap.size+2) 0 (w2.heap.size+2+1) l H W4 RP HG.out.ok HG.out.prf (by omega) (fun x hx=>by have:=HN.out x hx;omega));have kA:=(hk2.trans k3).trans k4;have A4:=kA.get hA (by simp);have F4:=kA.get hF (by simp);clear RP hwc;go_wp2_with fail;refine Calls.mono HJ.out ?_;rintro e w5 ⟨rfl,R5,k5⟩;have B5:=k5.get B4 (by simp);have A5:=k5.get A4 (by simp;omega);have F5:=k5.get F4 (by simp;omega);have b0:w5.cell? ⟨w2.heap.size+2,0,none⟩=some (.slice (H 6).ao l.length (H 6).cap):=by rw[ab B5];rfl
      have b1:w5.cell? ⟨w2.heap.size+2,1,none⟩=some (.slice a7 n7 c7):=by rw[ab B5];rfl
      have b2:w5.cell? ⟨w2.heap.size+2,2,none⟩=some (.slice (some ⟨w2.heap.size+2+1,0,none⟩) l.length l.length):=by rw[ab B5];rfl
      have a0:w5.cell? ⟨w.heap.size,0,none⟩=some (.slice none 0 0):=by rw[ab A5];rfl
      have a1:w5.cell? ⟨w.heap.size,1,none⟩=some (.slice none 0 0):=by rw[ab A5];rfl
      have a2:w5.cell? ⟨w.heap.size,2,none⟩=some (.slice none 0 0):=by rw[ab A5];rfl
      obtain⟨z0,z1,z2,z3⟩:=bt F5;have ya:=an A5;have yf:=an F5;have hA2w:=ac A5;have hF2w:=ac F5
      have KW:aa [] w w5:=by
        have q:=(hK.trans kA);exact⟨k5.os.trans q.os,k5.tape.trans q.tape,k5.output.trans q.output,Nat.le_trans q.size k5.size,fun k hk _=>(k5.block k (Nat.lt_of_lt_of_le hk q.size) (by simp;omega)).trans (q.block k hk (by simp))⟩
      have KS:=jI w5 w.heap.size (w.heap.size+1);have HS5:Hid (eU w5 l H):=R5.recd.sts;have HG5:=(show Hid _ from R5.arr);have HKS:=(show Hid _ from KS);clear R5 KS B5 A5 F5 B4 A4 F4 G4;go_wp2
      exact bodyPost_ret (v:=.tuple #[.agg #[.slice (H 6).ao l.length (H 6).cap,.slice a7 n7 c7,.slice (some ⟨w2.heap.size+2+1,0,none⟩) l.length l.length],.agg #[.int .i64 0,.string ⟨#[]⟩,.int .i64 0,.int .i64 0]]) (by simp[results,Tryz.results42,go_sem,a0,a1,a2,z0,z1,z2,z3]) rfl
        ⟨⟨H,w2.heap.size+2+1,⟨a7,n7,c7,rfl⟩,HS5.out.kept (HKS.out _ _ _ _ _ _ _) (fun k hk=>by have:=HN.out k hk;simp;omega),(HKS.out _ _ _ _ _ _ _).get HG5.out (by simp;omega),fun k hk=>by have:=HN.out k hk;omega,by omega⟩,iX KW (Nat.le_refl _) (Nat.le_succ _) _ _ _ _ _ _ _⟩
    · obtain⟨W4,hW4⟩:∃W4,W4=((W3.alloc (.cells #[.slice (H 6).ao l.length (H 6).cap,.slice a7 n7 c7,.slice (some ⟨w2.heap.size+2+1,0,none⟩) l.length l.length] 94)).alloc (.cells mc 53)).drew:=⟨_,rfl⟩
      have k4:aa [] W3 W4:=by rw[hW4];exact(((aa.refl [] _).alloc _).alloc _).drew
      have B4:W4.heap[w2.heap.size+2]?=some (.cells #[.slice (H 6).ao l.length (H 6).cap,.slice a7 n7 c7,.slice (some ⟨w2.heap.size+2+1,0,none⟩) l.length l.length] 94 (0,0)):=by
        rw[hW4];have e:=((aa.refl [] (W3.alloc (.cells #[.slice (H 6).ao l.length (H 6).cap,.slice a7 n7 c7,.slice (some ⟨w2.heap.size+2+1,0,none⟩) l.length l.length] 94))).alloc (.cells mc 53)).drew.get (heap_alloc_new _ _) (by simp);rw[hs3]at e;exact e
      have G4:W4.heap[w2.heap.size+2+1]?=some (.cells (d8 (fh l 0)).toArray 53 (0,0)):=by
        rw[hW4,<-HMC.out];have e1:(W3.alloc (.cells #[.slice (H 6).ao l.length (H 6).cap,.slice a7 n7 c7,.slice (some ⟨w2.heap.size+2+1,0,none⟩) l.length l.length] 94)).heap.size=w2.heap.size+2+1:=by simp[hs3]
        have e:=heap_alloc_new (W3.alloc (.cells #[.slice (H 6).ao l.length (H 6).cap,.slice a7 n7 c7,.slice (some ⟨w2.heap.size+2+1,0,none⟩) l.length l.length] 94)) (.cells mc 53);rw[e1]at e;exact(aa.refl [] _).drew.get e (by simp)
      rw[<-hW4];clear hW4;have RP:eR W4 (w2.heap.size+2) 0 l H (w2.heap.size+2+1) (fh l 0):=⟨⟨⟨_,_,B4,rfl⟩,hS3.still k4⟩,⟨_,_,B4,by rw[mG l 0 (Nat.zero_le _)];rfl⟩,G4⟩;have HJ:=(show Hid _ from jA (w2.heap.size+2) 0 (w2.heap.size+2+1) l H W4 RP HG.out.ok HG.out.prf (by omega) (fun x hx=>by have:=HN.out x hx;omega));have kA:=(hk2.trans k3).trans k4;have A4:=kA.get hA (by simp);have F4:=kA.get hF (by simp);clear RP hwc;go_wp2_with fail;refine Calls.mono HJ.out ?_;rintro e w5 ⟨rfl,R5,k5⟩;have B5:=k5.get B4 (by simp);have A5:=k5.get A4 (by simp;omega);have F5:=k5.get F4 (by simp;omega);have b0:w5.cell? ⟨w2.heap.size+2,0,none⟩=some (.slice (H 6).ao l.length (H 6).cap):=by rw[ab B5];rfl
      have b1:w5.cell? ⟨w2.heap.size+2,1,none⟩=some (.slice a7 n7 c7):=by rw[ab B5];rfl
      have b2:w5.cell? ⟨w2.heap.size+2,2,none⟩=some (.slice (some ⟨w2.heap.size+2+1,0,none⟩) l.length l.length):=by rw[ab B5];rfl
      have a0:w5.cell? ⟨w.heap.size,0,none⟩=some (.slice none 0 0):=by rw[ab A5];rfl
      have a1:w5.cell? ⟨w.heap.size,1,none⟩=some (.slice none 0 0):=by rw[ab A5];rfl
      have a2:w5.cell? ⟨w.heap.size,2,none⟩=some (.slice none 0 0):=by rw[ab A5];rfl
      obtain⟨z0,z1,z2,z3⟩:=bt F5;have ya:=an A5;have yf:=an F5;have hA2w:=ac A5;have hF2w:=ac F5
      have KW:aa [] w w5:=by
        have q:=(hK.trans kA);exact⟨k5.os.trans q.os,k5.tape.trans q.tape,k5.output.trans q.output,Nat.le_trans q.size k5.size,fun k hk _=>(k5.block k (Nat.lt_of_lt_of_le hk q.size) (by simp;omega)).trans (q.block k hk (by simp))⟩
      have KS:=jI w5 w.heap.size (w.heap.size+1);have HS5:Hid (eU w5 l H):=R5.recd.sts;have HG5:=(show Hid _ from R5.arr);have HKS:=(show Hid _ from KS);clear R5 KS B5 A5 F5 B4 A4 F4 G4;go_wp2
      exact bodyPost_ret (v:=.tuple #[.agg #[.slice (H 6).ao l.length (H 6).cap,.slice a7 n7 c7,.slice (some ⟨w2.heap.size+2+1,0,none⟩) l.length l.length],.agg #[.int .i64 0,.string ⟨#[]⟩,.int .i64 0,.int .i64 0]]) (by simp[results,Tryz.results42,go_sem,a0,a1,a2,z0,z1,z2,z3]) rfl
        ⟨⟨H,w2.heap.size+2+1,⟨a7,n7,c7,rfl⟩,HS5.out.kept (HKS.out _ _ _ _ _ _ _) (fun k hk=>by have:=HN.out k hk;simp;omega),(HKS.out _ _ _ _ _ _ _).get HG5.out (by simp;omega),fun k hk=>by have:=HN.out k hk;omega,by omega⟩,iX KW (Nat.le_refl _) (Nat.le_succ _) _ _ _ _ _ _ _⟩
structure dP(w:World)(x:Nat)(fs:Fs)(l:List St)(H:Nat->Hd)(g:Nat):Prop where
  ver:∃(a7:Option Addr) (n7 c7:Nat),iR w x fs true (.slice (H 6).ao l.length (H 6).cap) (.slice a7 n7 c7) (.slice (some ⟨g,0,none⟩) l.length l.length)
  sts:eU w l H
  arr:w.heap[g]?=some (.cells (d8 (aK l l.length)).toArray 53 (0,0))
  far:x≠g/\∀k,cK H k->k≠x
theorem dP.anyR{w:World}{x:Nat}{fs:Fs}{l:List St}{H:Nat->Hd}{g:Nat}(h:dP w x fs l H g):bY w x fs:=by
  obtain⟨a7,n7,c7,h⟩:=h.ver;exact h.anyR
theorem dP.still{w w':World}{x:Nat}{fs:Fs}{l:List St}{H:Nat->Hd}{g:Nat}(h:dP w x fs l H g)(k:aa [] w w'):dP w' x fs l H g:=by
  obtain⟨a7,n7,c7,hv⟩:=h.ver;exact⟨⟨a7,n7,c7,bz.kept hv k (by simp)⟩,h.sts.still k,k.get h.arr (by simp),h.far⟩
theorem dP.tellA{w:World}{x:Nat}{fs:Fs}{l:List St}{H:Nat->Hd}{g:Nat}(h:dP w x fs l H g):lE w x 10 g (aK l l.length):=by
  obtain⟨a7,n7,c7,hv⟩:=h.ver;refine⟨⟨_,_,hv.1,?_⟩,h.arr⟩;rw[gM];rfl
theorem qs(x:Nat)(fs:Fs)(w:World)(h:fp w x fs) :
    Calls Tryz.prog 14 #[.pointer (some ⟨x,0,none⟩)] w fun e w'=>e=.returned (.slice none 0 0)/\w'=w:=by
  have hc:=(iR.cells h).2.2.2;have RN:=Ae x 10 w hc;have HRN:=(show Hid _ from RN);clear RN hc;go_enter Tryz.func14,Tryz.ntmps14;go_wp2_with fail;refine Calls.mono HRN.out ?_;rintro e w1 ⟨rfl,rfl⟩;go_wp2;go_ret;exact⟨rfl,rfl⟩
theorem rT(x:Nat)(fs:Fs)(l:List St)(H:Nat->Hd)(g:Nat)(w:World)(h:dP w x fs l H g)(hl:l.length<=10000) :
    Calls Tryz.prog 14 #[.pointer (some ⟨x,0,none⟩)] w fun e w'=>∃ob:Option Nat,e=.returned (dn ob (eY l).length)/\dG w' ob (eY l)/\(∀k,ob=some k->w.heap.size<=k)/\aa [] w w':=by
  have RN:=Ad x 10 g (aK l l.length) w h.tellA (by rw[gM];exact hl);have HRN:=(show Hid _ from RN);clear RN;go_enter Tryz.func14,Tryz.ntmps14;go_wp2_with fail;refine Calls.mono HRN.out ?_;rintro e w1 ⟨ob,rfl,h1,h2,h3⟩;go_wp2;go_ret;exact⟨ob,rfl,h1,h2,h3⟩
theorem zf{S:List Nat}{w w2:World}{B:Nat}(h:aa S w w2)(hB:w.heap.size<=B)(v0 v1 v2 v3:Value) :
    aa S w ((((w2.setCell ⟨B,0,none⟩ v0).setCell ⟨B,1,none⟩ v1).setCell ⟨B,2,none⟩ v2).setCell ⟨B,3,none⟩ v3) :=
  (((h.setCell (Or.inr hB) _).setCell (Or.inr hB) _).setCell (Or.inr hB) _).setCell (Or.inr hB) _
theorem oW(w2:World)(B:Nat)(v0 v1 v2 v3:Value) :
    aa [B] w2 ((((w2.setCell ⟨B,0,none⟩ v0).setCell ⟨B,1,none⟩ v1).setCell ⟨B,2,none⟩ v2).setCell ⟨B,3,none⟩ v3) :=
  ((((aa.refl [B] w2).setCell (Or.inl (by simp)) _).setCell (Or.inl (by simp)) _).setCell (Or.inl (by simp)) _).setCell (Or.inl (by simp)) _
theorem lG{S:List Nat}{w w2:World}{A B:Nat}(h:aa S w w2)(hA:A∈S∨w.heap.size<=A)(hB:B∈S∨w.heap.size<=B)(u0 u1 u2 u3 v0 v1 v2 v3:Value) :
    aa S w ((((((((w2.setCell ⟨A,9,none⟩ u0).setCell ⟨A,10,none⟩ u1).setCell ⟨A,11,none⟩ u2).setCell ⟨A,12,none⟩ u3).setCell ⟨B,0,none⟩ v0).setCell ⟨B,1,none⟩ v1).setCell ⟨B,2,none⟩ v2).setCell ⟨B,3,none⟩ v3) :=
  (((((((h.setCell hA _).setCell hA _).setCell hA _).setCell hA _).setCell hB _).setCell hB _).setCell hB _).setCell hB _
def xN(fs:Fs)(k0 x:Nat)(w:World)(e:Ending)(w':World):Prop :=
  (if((cy fs k0).1.1==0)=true then e=.returned (.tuple #[eM bT,.int .i64 0])/\∃H g,dP w' x fs (cy fs k0).2.2.sts H g/\w.heap.size<=g/\∀k,cK H k->w.heap.size<=k
   else e=.returned (.tuple #[eM (cy fs k0).1,.int .i64 6])/\fp w' x fs)/\aa [x] w w'
set_option maxRecDepth 100000 in
theorem qq(x k0:Nat)(fs:Fs)(n:ByteArray)(w:World)(h:bY w x fs)(hf:de fs n=k0)(hk0:k0<fs.length)(hsz:∀j,j<fs.length->(aj fs j).size<=1024) :
    Calls Tryz.prog 13 #[.pointer (some ⟨x,0,none⟩),.string n] w fun e w'=>xN fs k0 x w e w':=by
  have hxw:=h.lt;obtain⟨W,hW⟩:∃W,W=w.alloc (.cells #[.int .i64 0,.string ⟨#[]⟩,.int .i64 0,.int .i64 0] 48):=⟨_,rfl⟩
  have hK:aa [] w W:=by rw[hW];exact(aa.refl [] _).alloc _
  have hF:W.heap[w.heap.size]?=some (.cells aO 48 (0,0)):=by rw[hW];exact heap_alloc_new _ _
  have hV:=h.kept hK (by simp);have HW:=(show Hid _ from hW.symm)
  have FA:Calls Tryz.prog 41 #[.pointer (some ⟨x,0,none⟩),.string n] W fun e w'=>e=.returned (.int .i64 k0)/\w'=W:=by
    obtain⟨rep,a,b,c,hv⟩:=hV;rw[<-hf];exact ji x _ fs _ n W hv
  have HFA:=(show Hid _ from FA);have DA:=tL x fs W hV;have HDA:=(show Hid _ from DA);clear FA DA hW;have hki:¬((k0:Int)<0):=by omega
  have OA:=fun(w2:World) (hB2:fp w2 x fs)=>Fq x _ k0 fs _ w2 hB2 hk0 hsz
  unfold vy at OA;have HOA:=(show Hid _ from OA);clear OA;unfold xN;generalize cy fs k0=R at *;obtain⟨⟨r,pf,pl,pc⟩,bg',d'⟩:=R;simp only[eM,bT]at HOA ⊢;generalize d'.sts=l at *;go_enter Tryz.func13,Tryz.ntmps13;go_wp2_with fail;rw[HW.out];refine Calls.mono HFA.out ?_;rintro e w9 ⟨rfl,rfl⟩;go_wp2_with fail;refine Calls.mono HDA.out ?_;rintro e w2 ⟨rfl,hB2,hk2⟩;have hF2:=hk2.get hF (by simp;omega);go_wp2_with fail;refine Calls.mono (HOA.out _ hB2) ?_;rintro e w3 ⟨hcase,hk3⟩;have hF3:=hk3.get hF2 (by simp);have hB3:=hB2.kept hk3 (by simp);have hKx:aa [x] w w3:=((hK.mono (by simp)).trans hk2).trans (hk3.mono (by simp));obtain⟨z0,z1,z2,z3⟩:=bt hF3;have yf:=an hF3;have hF3w:=ac hF3;have hne:w.heap.size≠x:=by omega
  have hne2:x≠w.heap.size:=by omega
  cases hr:(r==0)
  · have hr':(r != 0)=true:=by simp[bne,hr]
    simp only[hr,Bool.false_eq_true,if_false]at hcase ⊢;subst hcase;have HB3:=(show Hid _ from hB3);clear hB3 hB2 hV;go_wp2
    exact bodyPost_ret (v:=.tuple #[.agg #[.int .i64 r,.string pf,.int .i64 pl,.int .i64 pc],.int .i64 6]) (by simp[results,Tryz.results13,go_sem,z0,z1,z2,z3,hF3w]) rfl
      ⟨⟨rfl,HB3.out.kept (((oW w3 w.heap.size _ _ _ _).alloc _).alloc _) (by simp;omega)⟩,((zf hKx (Nat.le_refl _) _ _ _ _).alloc _).alloc _⟩
  · have hr':(r != 0)=false:=by simp[bne,hr]
    simp only[hr,if_true]at hcase ⊢;obtain⟨H,g,a7,n7,c7,rfl,hS,hA,hN,hg⟩:=hcase;have hz9:=ac hF;have hz2:=hk2.size;have hz3:=hk3.size;obtain⟨c9,c10,c11,c12⟩:=iR.cells hB3;have yv:=bz.free hB3;have HT:=(show Hid _ from iR.turn hB3 true (.slice (H 6).ao l.length (H 6).cap) (.slice a7 n7 c7) (.slice (some ⟨g,0,none⟩) l.length l.length));have HS3:=(show Hid _ from hS);have HA3:=(show Hid _ from hA);have HN3:=(show Hid _ from hN);have hxw3:x<w3.heap.size:=bz.lt hB3;clear hB3 hB2 hV hS hA hN;unfold El at c10 c11 c12;unfold vl at HT;go_wp2
    exact bodyPost_ret (v:=.tuple #[.agg #[.int .i64 0,.string ⟨#[]⟩,.int .i64 0,.int .i64 0],.int .i64 0]) (by simp[results,Tryz.results13,go_sem,z0,z1,z2,z3,hF3w]) rfl
      ⟨⟨rfl,H,g,⟨⟨a7,n7,c7,bz.kept HT.out (((oW _ w.heap.size _ _ _ _).alloc _).alloc _) (by simp;omega)⟩,HS3.out.kept (((lG (aa.refl [x,w.heap.size] w3) (Or.inl (by simp)) (Or.inl (by simp)) _ _ _ _ _ _ _ _).alloc _).alloc _) (fun k hk=>by have:=HN3.out k hk;simp;omega),(((lG (aa.refl [x,w.heap.size] w3) (Or.inl (by simp)) (Or.inl (by simp)) _ _ _ _ _ _ _ _).alloc _).alloc _).get HA3.out (by simp;omega),⟨by omega,fun k hk=>by have:=HN3.out k hk;omega⟩⟩,by omega,fun k hk=>by have:=HN3.out k hk;omega⟩,
        ((lG hKx (Or.inl (by simp)) (Or.inr (Nat.le_refl _)) _ _ _ _ _ _ _ _).alloc _).alloc _⟩
theorem ur:gQ ⟨#[109]⟩=true:=by decide +kernel
def gO(fs:Fs):Prop:=∀j,j<fs.length->(aj fs j).size<=1024
def GA(N:Nat)(fs:Fs):Prop:=((∃k:Nat,k<fs.length/\de fs ⟨#[109]⟩=k)/\fs.length<=N+1)∨(de fs ⟨#[109]⟩=-1/\fs.length<=N)
def Ds(N:Nat)(fs:Fs):Prop:=GA N fs/\gO fs
theorem kc{fs:Fs}:gO fs ↔ ∀f∈fs,f.2.size<=1024:=by
 constructor
 ·intro h f hf
  obtain⟨i,hi,rfl⟩:=List.getElem_of_mem hf;have:=h i hi;unfold aj at this;rw[List.getD_eq_getElem?_getD,List.getElem?_eq_getElem hi]at this;exact this
 ·intro h j hj
  unfold aj;rw[List.getD_eq_getElem?_getD,List.getElem?_eq_getElem hj];exact h _ (List.getElem_mem hj)
theorem tQ{fs:Fs}(h:gO fs)(k:Nat)(n d:ByteArray)(hd:d.size<=1024):gO (fs.set k (n,d)):=by
 rw[kc]at h ⊢;intro f hf
 rcases List.mem_or_eq_of_mem_set hf with hf | rfl
 ·exact h f hf
 ·exact hd
theorem sm{fs:Fs}(h:gO fs)(n d:ByteArray)(hd:d.size<=1024):gO (fs++[(n,d)]):=by
 rw[kc]at h ⊢;intro f hf
 rcases List.mem_append.1 hf with hf | hf
 ·exact h f hf
 ·rw[List.mem_singleton.1 hf];exact hd
theorem tP:gO []:=fun j hj=>by simp at hj
theorem so(n d:ByteArray)(fs:Fs)(i j:Nat)(hj:j<fs.length)(h:bD n fs i=((i+j:Nat):Int)):bD n (fs.set j (n,d)) i=((i+j:Nat):Int):=by
 induction fs generalizing i j with
 | nil=>simp at hj
 | cons f r ih =>
  cases j with
  | zero=>simp[bD]
  | succ j =>
   rw[bD]at h
   split at h
   ·omega
   ·next hne =>
    rw[List.set_cons_succ,bD,if_neg hne];have:=ih (i+1) j (by simpa using hj) (by rw[h];omega);rw[this];omega
theorem qE(n d:ByteArray)(fs:Fs)(i:Nat)(h:bD n fs i=-1):bD n (fs++[(n,d)]) i=((i+fs.length:Nat):Int):=by
 induction fs generalizing i with
 | nil=>simp[bD]
 | cons f r ih =>
  rw[bD]at h
  split at h
  ·omega
  ·next hne =>
   rw[List.cons_append,bD,if_neg hne,ih (i+1) h];simp;omega
theorem Gb{N:Nat}(hN:N<=3)(fs:Fs)(t:ByteArray)(h:Ds N fs)(ht:¬1024<t.size) :
  ∃(k:Nat) (fs':Fs),g7 fs ⟨#[109]⟩ t=(0,fs')/\k<fs'.length/\k<4/\de fs' ⟨#[109]⟩=k/\bn fs' k=⟨#[109]⟩/\aj fs' k=t/\Ds N fs':=by
 have hc:fq ⟨#[109]⟩ t=0:=by simp[fq,ur,ht]
 obtain⟨h,hok⟩:=h
 rcases h with ⟨⟨k,hk,hf⟩,hl⟩ | ⟨hf,hl⟩
 ·have h2:de (fs.set k (⟨#[109]⟩,t)) ⟨#[109]⟩=k:=by
   have:=so ⟨#[109]⟩ t fs 0 k hk (by rw[show bD _ fs 0=de fs ⟨#[109]⟩ from rfl,hf];simp);simpa [de] using this
  refine⟨k,fs.set k (⟨#[109]⟩,t),by simp[g7,hc,hf],by simpa using hk,by omega,h2,?_,?_,Or.inl ⟨⟨k,by simpa using hk,h2⟩,by simpa using hl⟩,tQ hok k _ _ (by omega)⟩
  ·simp[bn,hk]
  ·simp[aj,hk]
 ·have h2:de (fs++[(⟨#[109]⟩,t)]) ⟨#[109]⟩=fs.length:=by
   have:=qE ⟨#[109]⟩ t fs 0 hf;simpa [de] using this
  refine⟨fs.length,fs++[(⟨#[109]⟩,t)],by simp[g7,hc,hf];omega,by simp,by omega,h2,?_,?_,Or.inl ⟨⟨fs.length,by simp,h2⟩,by simpa using hl⟩,sm hok _ _ (by omega)⟩
  ·simp[bn]
  ·simp[aj]
theorem CC(fs:Fs)(t:ByteArray)(ht:1024<t.size):g7 fs ⟨#[109]⟩ t=(3,fs):=by
 have hc:fq ⟨#[109]⟩ t=3:=by simp[fq,ur,ht]
 simp[g7,hc]
def qt(x:Nat)(t:ByteArray)(rv:Value):Array Value:=#[.pointer (some ⟨x,0,none⟩),.string t,rv,.int .i64 0,.slice none 0 0,.slice none 0 0,.slice none 0 0,.slice none 0 0,.slice none 0 0]
structure ba(w:World)(b x:Nat)(T:ByteArray)(o:Option Nat):Prop where
 blk:w.heap[b]?=some (.cells (qt x T (dn o (bj T).length)) 37 (0,0))
 rows:dG w o (bj T)
 ne:∀g,o=some g->g≠b/\g≠x
theorem ba.kept{w w':World}{b x:Nat}{T:ByteArray}{o:Option Nat}{S:List Nat}(h:ba w b x T o)(hk:aa S w w')(hb:b∉S)(hg:∀g,o=some g->g∉S):ba w' b x T o :=
 ⟨hk.get h.blk hb,h.rows.kept hk hg,h.ne⟩
theorem ba.still{w w':World}{b x:Nat}{T:ByteArray}{o:Option Nat}(h:ba w b x T o)(hk:aa [] w w'):ba w' b x T o:=h.kept hk (by simp) (by simp)
theorem ba.keptX{w w':World}{b x:Nat}{T:ByteArray}{o:Option Nat}(h:ba w b x T o)(hk:aa [x] w w')(hx:x≠b):ba w' b x T o :=
 h.kept hk (by simp;omega) (fun g hg=>by have:=(h.ne g hg).2;simpa using this)
theorem ba.lt{w:World}{b x:Nat}{T:ByteArray}{o:Option Nat}(h:ba w b x T o):b<w.heap.size:=ac h.blk
theorem ba.cells{w:World}{b x:Nat}{T:ByteArray}{o:Option Nat}(h:ba w b x T o):w.cell? ⟨b,0,none⟩=some (.pointer (some ⟨x,0,none⟩))/\w.cell? ⟨b,1,none⟩=some (.string T)/\w.cell? ⟨b,2,none⟩=some (dn o (bj T).length):=by
 refine⟨?_,?_,?_⟩ <;> (rw[ab h.blk];rfl)
theorem io(o:Option Nat)(n:Nat):∃ao k c,dn o n=.slice ao k c:=by
 cases o with
 | none=>exact⟨_,_,_,rfl⟩
 | some g=>exact⟨_,_,_,rfl⟩
def g9(rv:Value)(r:Int)(f:ByteArray)(l c e:Int):Value:=.tuple #[.agg #[rv,.int .i64 r,.string f,.int .i64 l,.int .i64 c,.int .i64 e],.bool true]
theorem cY{w:World}{r:Nat}{a0 a1 a2 a3 a4 a5:Value}(h:w.heap[r]?=some (.cells #[a0,a1,a2,a3,a4,a5] 102 (0,0))) :
  w.cell? ⟨r,0,none⟩=some a0/\w.cell? ⟨r,1,none⟩=some a1/\w.cell? ⟨r,2,none⟩=some a2/\w.cell? ⟨r,3,none⟩=some a3/\w.cell? ⟨r,4,none⟩=some a4/\w.cell? ⟨r,5,none⟩=some a5:=by
 refine⟨?_,?_,?_,?_,?_,?_⟩ <;> (rw[ab h];rfl)
set_option maxRecDepth 100000 in
theorem CV(b x:Nat)(T t:ByteArray)(o:Option Nat)(fs:Fs)(w:World)(hW:ba w b x T o)(hV:bY w x fs)(hx:x≠b)(ht:1024<t.size)(ht2:t.size<=4294967296) :
  Calls Tryz.prog 45 #[.pointer (some ⟨b,0,none⟩),.string t] w fun e w'=>e=.returned (g9 (.slice none 0 0) 0 ⟨#[]⟩ 0 0 3)/\ba w' b x T o/\bY w' x fs/\aa [x] w w':=by
 have hbw:=hW.lt;have hxw:=hV.lt;obtain⟨c0,c1,-⟩:=hW.cells;obtain⟨W,hWW⟩:∃W,W=(w.alloc (.cells #[.slice none 0 0,.int .i64 0,.string ⟨#[]⟩,.int .i64 0,.int .i64 0,.int .i64 0] 102)).alloc (.cells #[.slice none 0 0,.int .i64 0,.string ⟨#[]⟩,.int .i64 0,.int .i64 0,.int .i64 0] 102):=⟨_,rfl⟩
 have hKW0:aa [] w W:=by rw[hWW];exact((aa.refl _ _).alloc _).alloc _
 have s0:W.heap[w.heap.size]?=some (.cells #[.slice none 0 0,.int .i64 0,.string ⟨#[]⟩,.int .i64 0,.int .i64 0,.int .i64 0] 102 (0,0)):=by
  rw[hWW];exact((aa.refl [] _).alloc _).get (heap_alloc_new _ _) (by simp)
 have s1:W.heap[w.heap.size+1]?=some (.cells #[.slice none 0 0,.int .i64 0,.string ⟨#[]⟩,.int .i64 0,.int .i64 0,.int .i64 0] 102 (0,0)):=by
  rw[hWW];have e:(w.alloc (.cells #[.slice none 0 0,.int .i64 0,.string ⟨#[]⟩,.int .i64 0,.int .i64 0,.int .i64 0] 102)).heap.size=w.heap.size+1:=by simp
  rw[<-e];exact heap_alloc_new _ _
 have HW:=(show Hid _ from hWW.symm);have PF:=qr x ⟨#[109]⟩ t fs W (hV.kept hKW0 (by simp)) (by simp[ByteArray.size]) ht2;rw[CC fs t ht]at PF;have HPF:=(show Hid _ from PF);clear PF hWW;go_enter Tryz.func45,Tryz.ntmps45;go_wp2_with fail;rw[HW.out];refine Calls.mono HPF.out ?_;rintro e w2 ⟨rfl,hV2,-,hk2⟩;have hne1:w.heap.size≠x:=by omega
 have hne2:w.heap.size+1≠x:=by omega
 have s02:=hk2.get s0 (by simp;omega);have s12:=hk2.get s1 (by simp;omega);obtain⟨y0,y1,y2,y3,y4,y5⟩:=cY s02;obtain⟨z0,z1,z2,z3,z4,z5⟩:=cY s12;have f0:=an s02;have f1:=an s12;have HW2:Hid (ba w2 b x T o):=(hW.still hKW0).keptX hk2 hx;have hkx:aa [x] w w2:=(hKW0.mono (by simp)).trans hk2;have hzz:=hW.rows.lt;have HGG:Hid (∀g,o=some g->g∉[w.heap.size,w.heap.size+1]):=fun g hg=>by have:=hzz g hg;simp;omega
 have hxx:x∉[w.heap.size,w.heap.size+1]:=by simp;omega
 have hbb:b∉[w.heap.size,w.heap.size+1]:=by simp;omega
 have hdd:decide (1024<(t.size:Int))=true:=by simp;omega
 clear hzz;go_wp2;refine bodyPost_ret (v:=g9 (.slice none 0 0) 0 ⟨#[]⟩ 0 0 3) (by simp[results,Tryz.results45,go_sem,g9,y0,y1,y2,y3,y4,y5]) rfl ⟨rfl,?_,?_,?_⟩
 ·exact HW2.out.kept (S:=[w.heap.size,w.heap.size+1]) (by repeat (first | refine aa.setCell ?_ (Or.inl (by simp)) _ | refine aa.alloc ?_ _ | refine aa.drew ?_ | exact aa.refl _ _)) hbb HGG.out
 ·exact hV2.kept (S:=[w.heap.size,w.heap.size+1]) (by repeat (first | refine aa.setCell ?_ (Or.inl (by simp)) _ | refine aa.alloc ?_ _ | refine aa.drew ?_ | exact aa.refl _ _)) hxx
 ·exact(by repeat (first | refine aa.setCell ?_ (Or.inr (by simp)) _ | refine aa.alloc ?_ _ | refine aa.drew ?_ | exact hkx))
def Fw(o:Option Nat)(t:ByteArray):Value :=
  if((bC t).1.1==0)=true then g9 (dn o (bj t).length) 0 ⟨#[]⟩ 0 0 0 else g9 (.slice none 0 0) (bC t).1.1 ⟨#[109]⟩ (aD t (bC t).1.2) (bb t (bC t).1.2) 6
theorem DP(w:World):(binOp .eql 48 (.agg #[.int .i64 0,.string ⟨#[]⟩,.int .i64 0,.int .i64 0]) (.agg #[.int .i64 0,.string ⟨#[]⟩,.int .i64 0,.int .i64 0])).run Tryz.prog w=.ok (.bool true) w:=by kernel_rfl
theorem Dm(x k:Nat)(fs:Fs)(t:ByteArray)(w:World)(h:bY w x fs)(hf:de fs ⟨#[109]⟩=k)(hk:k<fs.length)(hk4:k<4)(hnm:bn fs k=⟨#[109]⟩)(hdt:aj fs k=t)(hsz:gO fs)(hni:fB t=false) :
    Calls Tryz.prog 13 #[.pointer (some ⟨x,0,none⟩),.string ⟨#[109]⟩] w fun e w' =>
      (if((bC t).1.1==0)=true then e=.returned (.tuple #[.agg #[.int .i64 0,.string ⟨#[]⟩,.int .i64 0,.int .i64 0],.int .i64 0])/\∃H g,dP w' x fs (bC t).2.sts H g/\w.heap.size<=g/\∀k,cK H k->w.heap.size<=k
       else e=.returned (.tuple #[.agg #[.int .i64 (bC t).1.1,.string ⟨#[109]⟩,.int .i64 (aD t (bC t).1.2),.int .i64 (bb t (bC t).1.2)],.int .i64 6])/\fp w' x fs)/\aa [x] w w':=by
  have hs:(aj fs k).size<=1024:=hsz k hk;have hp:=ja fs k hk4 hs (by rw[hdt];exact pH t hni);rw[hnm,hdt]at hp;refine(qq x k fs ⟨#[109]⟩ w h hf hk hsz).mono ?_;rintro e w' ⟨hc,hK⟩;refine⟨?_,hK⟩;rw[hp]at hc;have er:(bU ⟨#[109]⟩ t 0 bh)=bC t:=rfl;rw[er]at hc;unfold oV at hc
  cases hr:((bC t).1.1==0) with
  | true =>
    simp only[hr,if_true]at hc ⊢;rw[if_pos (by rfl)]at hc;exact hc
  | false =>
    simp only[hr,Bool.false_eq_true,if_false]at hc ⊢;exact hc
def xK(N b x:Nat)(T t:ByteArray)(o:Option Nat)(w:World)(e:Ending)(w':World):Prop :=
  ∃o',e=.returned (Fw o' t)/\(((bC t).1.1==0)=true->dG w' o' (bj t))/\(∀g,o'=some g->w.heap.size<=g)/\ba w' b x T o/\(∃fs',bY w' x fs'/\Ds N fs')/\aa [x] w w'
theorem gI{S:List Nat}{w w3:World}{q:Nat}(h:aa S w w3)(hq:q∈S∨w.heap.size<=q)(a0 a1 a2 a3 a4:Value)(o:Obj) :
    aa S w ((((((w3.setCell ⟨q,1,none⟩ a0).setCell ⟨q,2,none⟩ a1).setCell ⟨q,3,none⟩ a2).setCell ⟨q,4,none⟩ a3).setCell ⟨q,5,none⟩ a4).alloc o) :=
  (((((h.setCell hq _).setCell hq _).setCell hq _).setCell hq _).setCell hq _).alloc o
theorem iE{S:List Nat}{w w3:World}{p q:Nat}(h:aa S w w3)(hp:p∈S∨w.heap.size<=p)(hq:q∈S∨w.heap.size<=q)(a5 a6 a7 a8 a9 a10 a11:Value) :
    aa S w (((((((w3.setCell ⟨q,0,none⟩ a5).setCell ⟨p,0,none⟩ a6).setCell ⟨p,1,none⟩ a7).setCell ⟨p,2,none⟩ a8).setCell ⟨p,3,none⟩ a9).setCell ⟨p,4,none⟩ a10).setCell ⟨p,5,none⟩ a11).drew :=
  (((((((h.setCell hq _).setCell hp _).setCell hp _).setCell hp _).setCell hp _).setCell hp _).setCell hp _).drew
theorem kJ{S:List Nat}{w w3:World}{p q:Nat}(h:aa S w w3)(hp:p∈S∨w.heap.size<=p)(hq:q∈S∨w.heap.size<=q)(a0 a1 a2 a3 a4 a5 a6 a7 a8 a9 a10 a11:Value)(o:Obj) :
    aa S w (((((((((((((w3.setCell ⟨q,1,none⟩ a0).setCell ⟨q,2,none⟩ a1).setCell ⟨q,3,none⟩ a2).setCell ⟨q,4,none⟩ a3).setCell ⟨q,5,none⟩ a4).setCell ⟨q,0,none⟩ a5).setCell ⟨p,0,none⟩ a6).setCell ⟨p,1,none⟩ a7).setCell ⟨p,2,none⟩ a8).setCell ⟨p,3,none⟩ a9).setCell ⟨p,4,none⟩ a10).setCell ⟨p,5,none⟩ a11).alloc o).drew :=
  (((((((((((((h.setCell hq _).setCell hq _).setCell hq _).setCell hq _).setCell hq _).setCell hq _).setCell hp _).setCell hp _).setCell hp _).setCell hp _).setCell hp _).setCell hp _).alloc o).drew
theorem vT{w3:World}{q:Nat}(h:w3.heap[q]?=some (.cells #[.slice none 0 0,.int .i64 0,.string ⟨#[]⟩,.int .i64 0,.int .i64 0,.int .i64 0] 102 (0,0)))(a0 a1 a2 a3 a4:Value)(o:Obj) :
    ((((((w3.setCell ⟨q,1,none⟩ a0).setCell ⟨q,2,none⟩ a1).setCell ⟨q,3,none⟩ a2).setCell ⟨q,4,none⟩ a3).setCell ⟨q,5,none⟩ a4).alloc o).heap[q]?=some (.cells #[.slice none 0 0,a0,a1,a2,a3,a4] 102 (0,0)):=by
  refine((aa.refl [] _).alloc o).get ?_ (by simp);rw[ae (ae (ae (ae (ae h 1 a0) 2 a1) 3 a2) 4 a3) 5 a4];rfl
theorem dP.kept{w w':World}{x:Nat}{fs:Fs}{l:List St}{H:Nat->Hd}{g:Nat}{S:List Nat}(h:dP w x fs l H g)(k:aa S w w')(hx:x∉S)(hg:g∉S)(hH:∀k,cK H k->k∉S):dP w' x fs l H g:=by
  obtain⟨a7,n7,c7,hv⟩:=h.ver;exact⟨⟨a7,n7,c7,bz.kept hv k hx⟩,h.sts.kept k hH,k.get h.arr hg,h.far⟩
theorem iq.good{T:ByteArray}(h:iq T):Bc (bC T).2.sts:=iW T h.size h.inc
theorem iq.rws{T:ByteArray}(h:iq T):xI (bj T):=h.good.rows
theorem iq.zero{T:ByteArray}(h:iq T):((bC T).1.1==0)=true:=by rw[h.ok];rfl
def Ba(N b x:Nat)(T:ByteArray)(o:Option Nat)(w:World)(e:Ending)(w':World):Prop :=
 e=.returned (.bool true)/\ba w' b x T o/\(∃fs',bY w' x fs'/\Ds N fs')/\aa [x] w w'
theorem nE(w:World)(b:Nat)(u v:Value):aa [b] w ((w.setCell ⟨b,1,none⟩ u).setCell ⟨b,2,none⟩ v) :=
 ((aa.refl [b] w).setCell (Or.inl (by simp)) _).setCell (Or.inl (by simp)) _
theorem ba.text{w:World}{b x:Nat}{T:ByteArray}{o:Option Nat}(h:ba w b x T o)(U:ByteArray)(o':Option Nat)(hR:dG w o' (bj U))(hne:∀g,o'=some g->g≠b/\g≠x) :
  ba ((w.setCell ⟨b,1,none⟩ (.string U)).setCell ⟨b,2,none⟩ (dn o' (bj U).length)) b x U o':=by
 refine⟨?_,hR.kept (nE w b _ _) (fun g hg=>by have:=(hne g hg).1;simpa using this),hne⟩;rw[ae (ae h.blk 1 (.string U)) 2 (dn o' (bj U).length)];simp[qt]
theorem nS:bj ⟨#[]⟩=[]:=by
 have h:(bC ⟨#[]⟩).2.sts.length=0:=by decide +kernel
 unfold bj;rw[List.eq_nil_of_length_eq_zero h];rfl
theorem xg(ao:Option Addr)(cap:Nat)(w:World):Calls Tryz.prog 5 #[.slice ao 0 cap] w fun e w'=>e=.returned (.bool true)/\w'=w:=by
 go_enter Tryz.func5,Tryz.ntmps5;go_wp2;refine wp_loop_rounds 1 ?_;rw[rounds_succ];go_wp2;go_ret;exact⟨rfl,rfl⟩
theorem C1(ao:Option Addr)(cap:Nat)(l:List ByteArray)(w:World)(hl:l.length<=140737488351232)(hls:∀x,x∈l->x.size<=140737488351232)(hc:l.length=0∨∃b off,ao=some ⟨b,off,none⟩/\fZ w b off l) :
  Calls Tryz.prog 5 #[.slice ao l.length cap] w fun e w'=>(∃r,e=.returned (.bool r)/\(r=true->l.length<=1073741824/\∀i,i<l.length->(l.getD i ⟨#[]⟩).size<=1073741824))/\w'=w:=by
 rcases hc with h0 | ⟨b,off,rfl,hcc⟩
 ·rw[h0]
  refine(xg ao cap w).mono ?_;rintro e w1 ⟨rfl,rfl⟩;exact⟨⟨true,rfl,fun _=>⟨by omega,fun i hi=>by omega⟩⟩,rfl⟩
 ·exact Al b off cap l w hl hls hcc
section
open Go.ChangeShapes Go.WideShapes Go.ChangeAt Go.RowKit
open Go.ChangeMaps (open_string shut_string)
theorem own:ownKnob Tryz.prog.godebug=none:=by kernel_rfl
theorem yi:laidOutB Tryz.prog=true:=by kernel_rfl
theorem Fd:Tryz.prog.bytesOf 9=16:=by kernel_rfl
theorem tl{H:Type}(P:Program)(e:TypeId)(f:ByteArray->DataW H)(hf:∀s,f s=.lit (.string s.data.toList))(l:List ByteArray)(s:ByteArray)(hs:s∈l):s.data.toList.length∈DataW.weightsAll P e (l.map f):=by
 induction l with
 | nil=>simp at hs
 | cons a r ih =>
  rw[List.map_cons,DataW.weightsAll,List.mem_append]
  rcases List.mem_cons.1 hs with rfl | h
  ·left;rw[hf,DataW.weights];simp
  ·right;exact ih h
theorem yR{H:Type}{enc:TypeId×Value->H}{W:World}{a0:Option Addr}{len0 cap0:Nat}{d0:DataW H}{p0:List MemPlace}{TS:List TypeId}{DS:List (DataW H)}
  (h0:DataW.Trod enc Tryz.prog W 0 (fun _=>true) true 22 (.slice a0 len0 cap0) d0 p0)
  (hsz:(DataW.weightsEach Tryz.prog TS DS).all (·<=reachBytes)=true) (hT:TS[0]?=some 22) (hD:DS[0]?=some d0) :
  ∃l:List ByteArray,l.length=len0/\len0<=140737488351232/\(∀x,x∈l->x.size<=140737488351232)/\(l.length=0∨∃b off,a0=some ⟨b,off,none⟩/\fZ W b off l):=by
 have lt0:∀x∈p0,x.block<W.heap.size:=by obtain⟨m,hm⟩:=h0;exact DataW.trod_lt m _ _ _ hm
 obtain⟨fuel,hf⟩:=h0
 rcases open_strings Tryz.underlying22 Tryz.underlying9 (by kernel_rfl) hf with ⟨hcs,_⟩ | ⟨x,l,c,ss,hcs,_,hl,hm,hz,hx,hcell,hws⟩
 ·simp[Value.cells]at hcs
  obtain⟨rfl,rfl,rfl⟩:=hcs;exact⟨[],rfl,by omega,by simp,Or.inl rfl⟩
 ·simp[Value.cells]at hcs
  obtain⟨rfl,rfl,rfl⟩:=hcs;simp at hz;have hsl:(ss.take len0).length=len0:=by simp;omega
  simp only[Prod.mk.injEq]at hx;obtain⟨rfl,-⟩:=hx;have hw1:=sized_slice hsz (j:=0) hT hD Tryz.underlying22;rw[Fd]at hw1;simp only[ChangeShapes.strs,List.length_map,List.length_take,List.length_drop,reachBytes]at hw1;refine⟨ss.take len0,hsl,by omega,?_,?_⟩
  ·intro y hy
   have hm1:y.data.toList.length∈DataW.weights Tryz.prog 22 (.slice (ChangeShapes.strs (ss.take len0)) (ChangeShapes.strs (ss.drop len0)):DataW H):=by
    simp only[DataW.weights,Tryz.underlying22];exact List.mem_cons_of_mem _ (List.mem_append_left _ (tl Tryz.prog 9 _ (fun _=>rfl) _ y hy))
   have:=List.all_eq_true.1 hsz _ (DataW.weights_mem_each (j:=0) hT hD _ hm1);have this2:y.data.toList.length<=reachBytes:=by simpa using this
   simp only[reachBytes]at this2;exact this2
  ·by_cases h0:len0=0
   ·left;rw[hsl];exact h0
   ·right
    obtain⟨b,off,spot⟩:=x;have hc0:=hcell 0 (by omega);have hspot:spot=none:=by simpa [Addr.add] using World.cell?_spot hc0
    subst hspot;refine⟨b,off,rfl,?_,?_⟩
    ·have:W.cell? ⟨b,off,none⟩=some (.string (ss.getD 0 ByteArray.empty)):=by simpa [Addr.add] using hc0
     unfold World.cell? at this
     split at this
     ·next hh=>exact ac hh
     ·cases this
    ·intro i hi
     have hi':i<len0:=by rw[hsl]at hi;exact hi
     have:=hcell i (by omega)
     have ea:(⟨b,off,none⟩:Addr).add i=⟨b,off+i,none⟩:=by
      simp only[Addr.add]
      split
      ·next h=>subst h;rfl
      ·rfl
     rw[ea]at this;rw[this,List.getElem_take,List.getD_eq_getElem?_getD,List.getElem?_eq_getElem (by omega)];rfl
end
def i9(l:List St)(lab:ByteArray)(n:Nat):Bool:=match l[n]? with | some s=>(s.label.toList==lab.toList)&&jt s.kind | none=>false
def ey(l:List St)(lab:ByteArray):Option Nat:=(List.range l.length).find? (i9 l lab)
theorem rz(l:List St)(lab:ByteArray)(n:Nat)(h:n<l.length):i9 l lab n=((l[n].label.toList==lab.toList)&&jt l[n].kind):=by
 unfold i9;rw[List.getElem?_eq_getElem h]
theorem mp(b o:Nat)(lab:ByteArray)(l:List St)(H:Nat->Hd)(w:World)(h:bZ w b o l H)(hl:l.length<=1073741824) :
  Calls Tryz.prog 99 #[.pointer (some ⟨b,o,none⟩),.string lab] w fun e w'=>e=.returned (.int .i64 (bQ (ey l lab)))/\aa [] w w':=by
 have hbw:=h.lt;go_enter Tryz.func99,Tryz.ntmps99;go_wp2
 go_loopg [5] l.length (fun g i wr=>∃k:Nat,k<=l.length/\g=l.length-k/\i=.int .i64 k/\Hid (∀i,i<k->i9 l lab i=false)/\aa [] w wr)
 case atStart=>exact⟨0,by omega,by omega,rfl,fun i hi=>by omega,aa.refl _ _⟩
 case round =>
  obtain⟨k,hk,hg,rfl,hall,hK⟩:=hrel;have hr:=h.still hK;have c:=hr.at
  by_cases hlt:k<l.length
  ·obtain⟨g,e1,e2,e3,c0,c1,c2,c3,c4,c5,c6,c7⟩:=hr.sts.stmt k hlt
   rw[e1]at c;have HN:=(show Hid _ from rz l lab k hlt)
   have next:Hid (i9 l lab k=false->∀i,i<k+1->i9 l lab i=false):=by
    intro hf i hi
    by_cases e:i=k
    ·subst e;exact hf
    ·exact hall.out i (by omega)
   generalize l[k]=s at *
   cases hb:(s.label.toList==lab.toList)
   ·have HF:Hid (i9 l lab k=false):=by show _=_;rw[HN.out,hb];simp
    clear HN hr;go_wp2
    go_roundg (l.length-(k+1))
    case measure=>omega
    case rel=>exact⟨k+1,by omega,rfl,by go_num,next.out HF.out,hK⟩
   ·cases ha:jt s.kind
    ·have HF:Hid (i9 l lab k=false):=by show _=_;rw[HN.out,ha];simp
     clear HN hr;go_wp2_with (go_at_call 108;refine(cC s.kind _ _ _ _ _ _ _ _).mono ?_;rintro e w1 ⟨rfl,hk1⟩;rw[ha])
     go_roundg (l.length-(k+1))
     case measure=>omega
     case rel=>exact⟨k+1,by omega,rfl,by go_num,next.out HF.out,hK.trans hk1⟩
    ·have HF:Hid (ey l lab=some k):=gK hlt (by rw[HN.out,hb,ha];rfl) hall.out
     clear HN hr;go_wp2_with (go_at_call 108;refine(cC s.kind _ _ _ _ _ _ _ _).mono ?_;rintro e w1 ⟨rfl,hk1⟩;rw[ha]);go_ret;exact⟨ar (by rw[HF.out];rfl),hK.trans hk1⟩
  ·have HF:Hid (ey l lab=none):=fQ (fun i hi=>hall.out i (by omega))
   clear hr;go_wp2;go_ret;exact⟨ar (by rw[HF.out];rfl),hK⟩
def eO(k:Int):ByteArray:=if(k==2)=true then⟨#[36,102]⟩ else if(k==3)=true then⟨#[36,101]⟩ else if(k==4)=true then⟨#[36,97]⟩ else⟨#[36,112]⟩
theorem uj(k:Int)(w:World):Calls Tryz.prog 133 #[.int .i64 k] w fun e w'=>e=.returned (.string (eO k))/\w'=w:=by
 cases h2:(k==2)
 ·cases h3:(k==3)
  ·cases h4:(k==4)
   ·have HK:Hid (eO k=⟨#[36,112]⟩):=by show _=_;simp only[eO,h2,h3,h4];rfl
    go_enter Tryz.func133,Tryz.ntmps133;go_wp2;go_ret;exact⟨by rw[HK.out];rfl,rfl⟩
   ·have HK:Hid (eO k=⟨#[36,97]⟩):=by show _=_;simp only[eO,h2,h3,h4];rfl
    go_enter Tryz.func133,Tryz.ntmps133;go_wp2;go_ret;exact⟨by rw[HK.out];rfl,rfl⟩
  ·have HK:Hid (eO k=⟨#[36,101]⟩):=by show _=_;simp only[eO,h2,h3];rfl
   go_enter Tryz.func133,Tryz.ntmps133;go_wp2;go_ret;exact⟨by rw[HK.out];rfl,rfl⟩
 ·have HK:Hid (eO k=⟨#[36,102]⟩):=by show _=_;simp only[eO,h2];rfl
  go_enter Tryz.func133,Tryz.ntmps133;go_wp2;go_ret;exact⟨by rw[HK.out];rfl,rfl⟩
def iA(s:St)(k:Nat):ByteArray:=(s.symbols.take k).foldl (fun t x=>t++(⟨#[32]⟩++x)) (s.label++⟨#[32]⟩++eO s.kind)
def dK(s:St):ByteArray:=iA s s.symbols.length
theorem kj(s:St)(k:Nat)(h:k<s.symbols.length):iA s (k+1)=iA s k++(⟨#[32]⟩++s.symbols[k]):=by
 unfold iA;rw[dv s.symbols k h,List.foldl_append];rfl
structure DB(s:St):Prop where
 label:s.label.size<=100000
 syms:∀x∈s.symbols,x.size<=100000
theorem rt(k:Int):(eO k).size=2:=by
 unfold eO
 repeat' split
 all_goals rfl
theorem uB:(⟨#[32]⟩:ByteArray).size=1:=rfl
theorem kl(s:St)(h:DB s)(k:Nat)(hk:k<=s.symbols.length):(iA s k).size<=100003+k*100001:=by
 induction k with
 | zero =>
  unfold iA;have:=h.label;simp only[List.take_zero,List.foldl_nil,ByteArray.size_append,uB,rt];omega
 | succ k ih =>
  have hx:=h.syms _ (List.getElem_mem (show k<s.symbols.length by omega));rw[kj s k (by omega)];simp only[ByteArray.size_append,uB];have:=ih (by omega);omega
def jb(l:List St)(n:Nat):Option ByteArray:=match l[n]? with
 | some s=>if(s.kind==2)=true then some (al s) else none
 | none=>none
def fb(l:List St)(hs:List Nat)(k:Nat):List ByteArray:=(hs.take k).filterMap (jb l)
def dS(l:List St)(hs:List Nat):List ByteArray:=hs.filterMap (jb l)
theorem xw(l:List St)(hs:List Nat)(k:Nat)(h:k<hs.length)(hn:hs[k]<l.length)(hk:(l[hs[k]].kind==2)=true):fb l hs (k+1)=fb l hs k++[al l[hs[k]]]:=by
 unfold fb;rw[dv hs k h,List.filterMap_append];have:jb l hs[k]=some (al l[hs[k]]):=by unfold jb;rw[List.getElem?_eq_getElem hn];simp[hk]
 simp[this]
theorem AJ(l:List St)(hs:List Nat)(k:Nat)(h:k<hs.length)(hn:hs[k]<l.length)(hk:(l[hs[k]].kind==2)=false):fb l hs (k+1)=fb l hs k:=by
 unfold fb;rw[dv hs k h,List.filterMap_append];have:jb l hs[k]=none:=by unfold jb;rw[List.getElem?_eq_getElem hn];simp[hk]
 simp[this]
theorem xv(l:List St)(hs:List Nat)(k:Nat):(fb l hs k).length<=hs.length:=by
 unfold fb;have h1:=List.length_filterMap_le (jb l) (hs.take k);have h2:(hs.take k).length<=hs.length:=by simp;omega
 omega
set_option maxRecDepth 100000 in
theorem oj(b o:Nat)(l:List St)(H:Nat->Hd)(hs:List Nat)(hh:Hd)(w:World)(h:bZ w b o l H)(ok:db l)(hOH:au w hh (aP hs))(hlen:hs.length<=10000)(hlt0:∀x∈hs,x<l.length) :
  Calls Tryz.prog 131 #[.pointer (some ⟨b,o,none⟩),.slice hh.ao hs.length hh.cap] w fun e w'=>∃hd:Hd,e=.returned (.slice hd.ao (dS l hs).length hd.cap)/\au w' hd (am (dS l hs))/\(∀x,hd.blk=some x->w.heap.size<=x)/\aa [] w w':=by
 obtain⟨i0,hi,hz0,hz1,hz2⟩:=info_parts dp;have hll:=ok.len;have HE:Hid (fb l hs hs.length=dS l hs):=by show _=_;unfold fb dS;rw[List.take_length]
 rw[<-HE.out];clear HE;obtain⟨AO,HAO⟩:∃AO,Hid (hh.ao=AO):=⟨_,rfl⟩
 rw[HAO.out];go_enter Tryz.func131,Tryz.ntmps131;go_wp2
 go_loopg [5,6] hs.length (fun gk sv i wr=>∃(k:Nat) (hd:Hd),k<=hs.length/\gk=hs.length-k/\i=.int .i64 k/\sv=.slice hd.ao (fb l hs k).length hd.cap/\au wr hd (am (fb l hs k))/\(∀x,hd.blk=some x->w.heap.size<=x)/\aa [] w wr)
 case atStart=>exact⟨0,⟨none,0⟩,by omega,by omega,rfl,rfl,World.ownsRow_nil _ _ _ _,by intro x hx;simp[Hd.blk]at hx,aa.refl _ _⟩
 case round =>
  obtain⟨k,hd,hk,hg,rfl,rfl,hO,hN,hK⟩:=hrel;have hr:=h.still hK;have hal:=xv l hs k
  by_cases hlt:k<hs.length
  ·have hnl:=hlt0 hs[k] (List.getElem_mem hlt)
   have hOHr:au wr hh (aP hs):=hOH.moved (fun x hx=>hK.block x (hOH.lt hx) (by simp))
   rcases hOHr.ways with ⟨_,h0,_⟩ | ⟨gh,curh,eh,eh2,eh3,-⟩
   ·have:hs.length=0:=h0
    omega
   have ch:=hOHr.cell eh k (.int .i64 hs[k]) (fM hs k hlt);have hAO:AO=some ⟨gh,0,none⟩:=by rw[<-HAO.out];exact eh
   subst hAO;have hki:(k:Int)<hs.length:=by omega
   have HY:=(show Hid _ from xw l hs k hlt hnl);have HN0:=(show Hid _ from AJ l hs k hlt hnl);have hsl:=ok.syms hs[k] hnl;clear eh eh2 eh3 hOHr HAO;generalize hs[k]=q at *;have VA:=im l[q] (H (10+2*q)) (H (11+2*q));unfold cQ at VA;have HVA:=(show Hid _ from VA);clear VA
   go_upto_region 6 with (go_at_call 87;refine(aI b o q l H _ (by exact hr) hnl).mono ?_;rintro e w3 ⟨rfl,hk3⟩;unfold cQ)
   obtain⟨W4,hW4⟩:∃W4,W4=w3.alloc (.cells #[.int .i64 l[q].kind,.string l[q].label,.slice (H (10+2*q)).ao l[q].symbols.length (H (10+2*q)).cap,.slice (H (11+2*q)).ao l[q].proof.length (H (11+2*q)).cap,.string l[q].fin.file,.int .i64 l[q].fin.line,.int .i64 l[q].fin.col,.int .i64 l[q].til] 144):=⟨_,rfl⟩
   have hk4:aa [] wr W4:=by rw[hW4];exact hk3.alloc _
   have B4:W4.heap[w3.heap.size]?=some (.cells #[.int .i64 l[q].kind,.string l[q].label,.slice (H (10+2*q)).ao l[q].symbols.length (H (10+2*q)).cap,.slice (H (11+2*q)).ao l[q].proof.length (H (11+2*q)).cap,.string l[q].fin.file,.int .i64 l[q].fin.line,.int .i64 l[q].fin.col,.int .i64 l[q].til] 144 (0,0)):=by rw[hW4];exact heap_alloc_new _ _
   rw[<-hW4];clear hW4;have u0:W4.cell? ⟨w3.heap.size,0,none⟩=some (.int .i64 l[q].kind):=by rw[ab B4];rfl
   have u1:W4.cell? ⟨w3.heap.size,1,none⟩=some (.string l[q].label):=by rw[ab B4];rfl
   have u2:W4.cell? ⟨w3.heap.size,2,none⟩=some (.slice (H (10+2*q)).ao l[q].symbols.length (H (10+2*q)).cap):=by rw[ab B4];rfl
   have u3:W4.cell? ⟨w3.heap.size,3,none⟩=some (.slice (H (11+2*q)).ao l[q].proof.length (H (11+2*q)).cap):=by rw[ab B4];rfl
   have u4:W4.cell? ⟨w3.heap.size,4,none⟩=some (.string l[q].fin.file):=by rw[ab B4];rfl
   have u5:W4.cell? ⟨w3.heap.size,5,none⟩=some (.int .i64 l[q].fin.line):=by rw[ab B4];rfl
   have u6:W4.cell? ⟨w3.heap.size,6,none⟩=some (.int .i64 l[q].fin.col):=by rw[ab B4];rfl
   have u7:W4.cell? ⟨w3.heap.size,7,none⟩=some (.int .i64 l[q].til):=by rw[ab B4];rfl
   have hr4:=hr.still hk4;have hO4:au W4 hd (am (fb l hs k)):=hO.moved (fun x hx=>hk4.block x (hO.lt hx) (by simp));have hV4:=(hr4.sts.syms q l[q] (List.getElem?_eq_getElem hnl)).view;have hK4:=hK.trans hk4
   cases h2:(l[q].kind==2)
   ·have HT:=(show Hid _ from HN0.out h2)
    clear HY HN0;go_wp2
    go_roundg (hs.length-(k+1))
    case measure=>omega
    case rel=>exact⟨k+1,hd,by omega,rfl,by go_num,by rw[HT.out],by rw[HT.out];exact hO4,hN,hK4⟩
   ·have HT:=(show Hid _ from HY.out h2)
    clear HY HN0;go_wp2_with (first | (go_at_call 149;refine(HVA.out _ (by exact hV4) (by omega)).mono ?_;rintro e w5 ⟨rfl,k5⟩;have hO5:=hO4.moved (fun x hx=>(k5.alloc (.cells #[.string (al l[q])] 9)).block x (hO4.lt hx) (by simp))) | (at_builtin;refine ay _ rfl (.tmp 23) (.tmp 26) 22 rfl i0 (.string ⟨#[]⟩) 16 hd (am (fb l hs k)) Tryz.underlying22 hi hz0 hz1 hz2 rfl Nat.one_pos rfl (by exact hO5) ⟨_,0,none⟩ 1 1 [.string (al l[q])] rfl rfl ?d1 ?d2 Nat.one_pos ?d3 ?d4 ?_))
    case d1=>intro j u hj;match j,hj with | 0,hj=>simp at hj;subst hj;simp[Addr.add]
    case d2=>intro u hu;simp at hu;subst hu;rfl
    case d3=>simp only[am];unfold maxLen;omega
    case d4=>simp only[am];omega
    intro g6 cap6 w6 hw6 hgr6 hfresh6;rw[bE (fb l hs k) (al l[q]),<-HT.out]at hw6;have hK5:=(hK4.trans k5).alloc (.cells #[.string (al l[q])] 9);have hK6:=hK5.grown hgr6 hN
    have hg6:w.heap.size<=g6:=by
     rcases hfresh6 with e | e
     ·exact hN g6 e
     ·have:=hK5.size;simp at e this;omega
    have hEl:Hid ((am (fb l hs k)).n+1=(fb l hs (k+1)).length):=by show _=_;rw[HT.out];simp[am]
    rw[hEl.out];clear hgr6 hfresh6 hO5;go_wp2
    go_roundg (hs.length-(k+1))
    case measure=>omega
    case rel=>exact⟨k+1,⟨some ⟨g6,0,none⟩,cap6⟩,by omega,rfl,by go_num,rfl,hw6,by intro x hx;simp[Hd.blk]at hx;omega,hK6⟩
  ·have e:k=hs.length:=by omega
   subst e;go_wp2;go_ret;exact⟨hd,rfl,hO,hN,hK⟩
set_option maxRecDepth 100000 in
theorem ul(s:St)(ha hb:Hd)(w:World)(hv:bH w ha s.symbols)(hsl:s.symbols.length<=10000)(sz:DB s) :
  Calls Tryz.prog 114 #[cQ s ha hb] w fun e w'=>e=.returned (.string (dK s))/\aa [] w w':=by
 unfold cQ;have hls:=sz.label;have hks:=rt s.kind;have H0:Hid (s.label++⟨#[32]⟩++eO s.kind=iA s 0):=rfl;obtain⟨X,hX⟩:∃X,X=w.alloc (.cells #[.int .i64 s.kind,.string s.label,.slice ha.ao s.symbols.length ha.cap,.slice hb.ao s.proof.length hb.cap,.string s.fin.file,.int .i64 s.fin.line,.int .i64 s.fin.col,.int .i64 s.til] 144):=⟨_,rfl⟩
 have kX:aa [] w X:=by rw[hX];exact(aa.refl [] _).alloc _
 have BX:X.heap[w.heap.size]?=some (.cells #[.int .i64 s.kind,.string s.label,.slice ha.ao s.symbols.length ha.cap,.slice hb.ao s.proof.length hb.cap,.string s.fin.file,.int .i64 s.fin.line,.int .i64 s.fin.col,.int .i64 s.til] 144 (0,0)):=by rw[hX];exact heap_alloc_new _ _
 have u0:X.cell? ⟨w.heap.size,0,none⟩=some (.int .i64 s.kind):=by rw[ab BX];rfl
 have u1:X.cell? ⟨w.heap.size,1,none⟩=some (.string s.label):=by rw[ab BX];rfl
 have HX:=(show Hid _ from hX.symm);clear hX;go_enter Tryz.func114,Tryz.ntmps114
 go_upto_region 1 with fail
 rw[HX.out]
 go_quiet ((go_at_call 133;exact Calls.quiet_of_same (uj _ _)))
 rw[H0.out];obtain⟨wq,hwq⟩:∃wq,wq=X.drewN nq:=⟨_,rfl⟩
 rw[<-hwq];have kq:aa [] w wq:=by rw[hwq];exact kX.drewN _
 have Bq:wq.heap[w.heap.size]?=some (.cells #[.int .i64 s.kind,.string s.label,.slice ha.ao s.symbols.length ha.cap,.slice hb.ao s.proof.length hb.cap,.string s.fin.file,.int .i64 s.fin.line,.int .i64 s.fin.col,.int .i64 s.til] 144 (0,0)):=by rw[hwq];exact((aa.refl [] X).drewN _).get BX (by simp)
 have v2:wq.cell? ⟨w.heap.size,2,none⟩=some (.slice ha.ao s.symbols.length ha.cap):=by rw[ab Bq];rfl
 have hvq:=hv.still kq;have hbz:=ac Bq;clear hwq u0 u1;go_wp2
 go_loopg [3,4] s.symbols.length (fun g tv i wr=>∃k:Nat,k<=s.symbols.length/\g=s.symbols.length-k/\i=.int .i64 k/\tv=.string (iA s k)/\wr=wq)
 case atStart=>exact⟨0,by omega,by omega,rfl,rfl,rfl⟩
 case round =>
  obtain⟨k,hk,hg,rfl,rfl,rfl⟩:=hrel
  by_cases hlt:k<s.symbols.length
  ·have hsz:=kl s sz k hk
   have hx:=sz.syms _ (List.getElem_mem hlt);have HT:=(show Hid _ from(kj s k hlt).symm);have hki:(k:Int)<s.symbols.length:=by omega
   rcases hvq with hn | ⟨g,off,cur,t,e1,e2,e3,e4,e5⟩
   ·rw[hn]at hlt;simp at hlt
   ·have cx:wr.cell? ⟨g,off+k,none⟩=some (.string s.symbols[k]):=by rw[ab e2];exact e3 k _ (List.getElem?_eq_getElem hlt)
    rw[e1]at v2;have hsn:=kl s sz (k+1) hlt;clear e3;generalize s.symbols[k]=y at *;generalize iA s k=tx at *;go_wp2
    go_roundg (s.symbols.length-(k+1))
    case measure=>omega
    case rel=>exact⟨k+1,by omega,rfl,by go_num,congrArg Value.string HT.out,rfl⟩
  ·have e:k=s.symbols.length:=by omega
   subst e;go_wp2;go_ret;exact⟨rfl,kq⟩
end Go.Proofs.YtlbhbocbakijbaaGreat

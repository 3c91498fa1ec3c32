import Derived.Test.YtpddjjabfbfifaaGreatG50
namespace Go.Proofs.YtpddjjabfbfifaaGreat
open Go.RowKit
set_option maxHeartbeats 40000000
theorem A8(fs:Fs)(k j:Nat)(h:j<k):aC (fs.take k) j=aC fs j/\aj (fs.take k) j=aj fs j:=by
 unfold aC aj;rw[List.getD_eq_getElem?_getD,List.getElem?_take,if_pos h,List.getD_eq_getElem?_getD];exact⟨rfl,rfl⟩
theorem lR.take{w:World}{ao:Option Addr}{cap:Nat}{fs:Fs}(h:lR w ao cap fs)(k:Nat)(hk:k<=fs.length):lR w ao cap (fs.take k):=by
 have hl:(fs.take k).length=k:=by rw[List.length_take];omega
 refine⟨by rw[hl];exact Nat.le_trans hk h.1,fun j hj=>?_⟩;rw[hl]at hj;obtain⟨e1,e2⟩:=A8 fs k j hj;rw[e1,e2];exact h.2 j (by omega)
theorem F3{w:World}{g:Nat}{cap:Nat}{fs:Fs}(h:lR w (some ⟨g,0,none⟩) cap fs)(j:Nat)(u:Value)(hu:(oE fs)[j]?=some u):w.cell? ⟨g,j,none⟩=some u:=by
 have hl:j<fs.length*2:=by
  rw[<-sN];exact(List.getElem?_eq_some_iff.1 hu).1
 obtain⟨g',e,-,c0,c1⟩:=h.2 (j / 2) (by omega)
 cases e
 obtain⟨f0,f1⟩:=uw fs (j / 2) (by omega)
 rcases Nat.mod_two_eq_zero_or_one j with e | e
 ·rw[show j / 2*2=j by omega]at c0 f0
  rw[f0]at hu;rw[c0,<-hu]
 ·rw[show j / 2*2+1=j by omega]at c1 f1
  rw[f1]at hu;rw[c1,<-hu]
def Kb(w:World)(v:Nat)(h:Hd)(fs:Fs)(w':World):Prop:=∃h',cW w' v h' fs/\ab (v :: h.blk.toList) w w'/\∀b,h'.blk=some b->h.blk=some b∨w.heap.size<=b
theorem Kb.stay{w w':World}{v:Nat}{h:Hd}{fs:Fs}{on:Bool}{p2 p3 p4:Value}(a:fH w v fs h on p2 p3 p4)(k:ab [] w w'):Kb w v h fs w':=⟨h,⟨_,_,_,_,a.still k⟩,k.mono (by simp),fun _ e=>Or.inl e⟩
theorem fH.newRow{W w5:World}{v:Nat}{fs fs':Fs}{h h5:Hd}{on:Bool}{p2 p3 p4:Value}(a:fH W v fs h on p2 p3 p4)(k:ab [] W w5)(o:aA w5 h5 (b8 fs'))(hb:∀q,h5.blk=some q->W.heap.size<=q)(hl:fs'.length<=4){m:Nat}(hm:m=fs'.length):fH (w5.setCell ⟨v,0,none⟩ (.slice h5.ao m h5.cap)) v fs' h5 on p2 p3 p4:=by
 have d5:=k.get a.d (by simp);have hz:=ae a.d;have far5:h5.blk≠some v:=fun x=>by have:=hb v x;omega
 have kk:ab [v] w5 (w5.setCell ⟨v,0,none⟩ (.slice h5.ao m h5.cap)):=(ab.refl _ _).setCell (Or.inl (by simp)) _;subst hm;exact⟨by rw[ah d5];rfl,o.moved (fun q hq=>kk.block q (o.lt hq) (by simp;intro e;exact far5 (by rw[<-e];exact hq))),far5,hl⟩
set_option maxRecDepth 100000 in
theorem tN(v:Nat)(fs0 fs:Fs)(h:Hd)(on:Bool)(p2 p3 p4:Value)(ao:Option Addr)(cap:Nat)(w:World)(hR:fH w v fs0 h on p2 p3 p4)(hS:lR w ao cap fs)(hn:ao=none->fs.length=0/\cap=0)(ha:∀ad,ao=some ad->∃g,ad=⟨g,0,none⟩)(hsz:∀j,j<fs.length->(aC fs j).size<=1073741824/\(aj fs j).size<=1073741824) :
  Calls Tryz.prog 31 #[.pointer (some ⟨v,0,none⟩),.slice ao fs.length cap] w fun e w'=>e=.returned (.int .i64 (gg fs))/\Kb w v h (jz fs0 fs) w':=by
 have HR:=(show Hid _ from hR)
 by_cases h4:4<fs.length
 ·have HL:Hid (gg fs=1):=by show _=_;unfold gg;rw[if_pos h4]
  have HLL:=(show Hid _ from mg (fs0:=fs0) HL.out (by decide));rw[HL.out];have h4i:(4:Int)<(fs.length:Int):=by omega
  clear hR;go_enter Tryz.func31,Tryz.ntmps31;go_wp2;go_ret;exact⟨rfl,by rw[HLL.out];exact Kb.stay HR.out (ab.refl _ _)⟩
 ·have HL:Hid (gg fs=dh (z9 fs) fs.length):=by show _=_;unfold gg;rw[if_neg h4]
  obtain⟨r,Hr⟩:∃r,Hid (gg fs=r):=⟨_,rfl⟩
  rw[Hr.out]at HL ⊢;have h4i:¬(4:Int)<(fs.length:Int):=by omega
  have HS:=(show Hid _ from hS);have HN:=(show Hid _ from hn);have HAD:=(show Hid _ from ha);have HSZ:=(show Hid _ from hsz);obtain⟨iF,hiF,hzF0,hzF1,hzF2⟩:=info_parts xO;clear hR hS hn ha hsz;go_enter Tryz.func31,Tryz.ntmps31;go_wp2
  go_loopg [5] fs.length (fun g iv wr=>∃k:Nat,k<=fs.length/\g=fs.length-k/\iv=.int .i64 k/\Hid (dh (z9 fs) k=0)/\Hid (ab [] w wr))
  case atStart=>exact⟨0,by omega,rfl,rfl,rfl,ab.refl _ _⟩
  case round =>
   obtain⟨k,hk,hg,rfl,HZ,HK⟩:=hrel
   by_cases hlt:k<fs.length
   ·have hki:(k:Int)<(fs.length:Int):=by omega
    have hk0:(0:Int)<=(k:Int):=by omega
    have hcp:=HS.out.1;obtain⟨g0,rfl,hg0,c0,c1⟩:=(lR.still HS.out HK.out).2 k hlt;have HC:Hid (∀w',ab [] wr w'->w'.cell? ⟨g0,k*2,none⟩=some (.string (aC fs k))/\w'.cell? ⟨g0,k*2+1,none⟩=some (.string (aj fs k))/\g0<w'.heap.size):=fun w' kw=>⟨by rw[World.cell?_of_block (kw.block g0 hg0 (by simp))];exact c0,by rw[World.cell?_of_block (kw.block g0 hg0 (by simp))];exact c1,Nat.lt_of_lt_of_le hg0 kw.size⟩
    have HFI:Hid (∀wx,ab [] wr wx->Calls Tryz.prog 35 #[.slice (some ⟨g0,0,none⟩) k cap,.string (aC fs k)] wx fun e w'=>e=.returned (.int .i64 (bt (fs.take k) (aC fs k)))/\w'=wx):=fun wx kx=>by
     have hl:(fs.take k).length=k:=by rw[List.length_take];omega
     have:=kY (fs.take k) (some ⟨g0,0,none⟩) cap (aC fs k) wx (by omega) (lR.take (lR.still HS.out (HK.out.trans kx)) k hk);rw[hl]at this;exact this
    have HFT:Hid (∀wx,Calls Tryz.prog 34 #[.string (aC fs k),.string (aj fs k)] wx fun e w'=>e=.returned (.int .i64 (cn (aC fs k) (aj fs k)))/\w'=wx):=fun wx=>yn _ _ wx (HSZ.out k hlt).1 (by have:=(HSZ.out k hlt).2;omega)
    have HE:Hid (z9 fs k=if(cn (aC fs k) (aj fs k)==0)=false then cn (aC fs k) (aj fs k) else if 0<=bt (fs.take k) (aC fs k) then 4 else 0):=rfl;have HST:Hid ((z9 fs k==0)=false->r=z9 fs k):=fun q=>by rw[HL.out];exact mz HZ.out q hlt
    have HGO:Hid (z9 fs k=0->dh (z9 fs) (k+1)=0):=fun q=>by rw[dh,HZ.out];exact q
    generalize aC fs k=nm at *;generalize aj fs k=dt at *;obtain⟨ck,Hck⟩:∃ck,Hid (cn nm dt=ck):=⟨_,rfl⟩
    rw[Hck.out]at HFT HE;obtain⟨fi,Hfi⟩:∃fi,Hid (bt (fs.take k) nm=fi):=⟨_,rfl⟩
    rw[Hfi.out]at HFI HE
    go_upto_region 6 with fail
    go_region_with (go_at_call 34;refine(HFT.out _).mono ?_;rintro e w9 ⟨rfl,hw9⟩)
    all_goals
     subst hw9;obtain⟨w9,H9⟩:∃w9,Hid (wr.drew=w9):=⟨_,rfl⟩
     rw[H9.out];have HK9:Hid (ab [] wr w9):=by show ab _ _ _;rw[<-H9.out];exact(ab.refl [] wr).drew
     clear c0 c1 hg0
     cases hck:(ck==0)
     ·rw[hck,if_pos rfl]at HE
      have HX:=(show Hid _ from HST.out (by rw[HE.out];exact hck));rw[HE.out]at HX;have hcn:(ck != 0)=true:=by unfold bne;rw[hck];rfl
      go_wp2;go_ret;exact⟨am HX.out.symm,by rw[mg (Hr.out.trans HX.out) (fun q=>by rw[q]at hck;cases hck)];exact Kb.stay HR.out (HK.out.trans HK9.out)⟩
     ·rw[hck,if_neg (by simp)]at HE
      have hcn:(ck != 0)=false:=by unfold bne;rw[hck];rfl
      obtain⟨d0,d1,d2⟩:=HC.out w9 HK9.out
      by_cases hfi:0<=fi
      ·rw[if_pos hfi]at HE
       have HX:=(show Hid _ from HST.out (by rw[HE.out];rfl));rw[HE.out]at HX
       go_upto_region 9 with fail
       go_region_with (go_at_call 35;refine(HFI.out _ (by exact HK9.out.drew)).mono ?_;rintro e w8 ⟨rfl,hw8⟩)
       all_goals
        subst hw8;have HK8:Hid (ab [] w w9.drew):=(HK.out.trans HK9.out).drew;go_wp2;go_ret;exact⟨am HX.out.symm,by rw[mg (Hr.out.trans HX.out) (by decide)];exact Kb.stay HR.out HK8.out⟩
      ·rw[if_neg hfi]at HE
       have HM:=(show Hid _ from HGO.out HE.out)
       go_upto_region 9 with fail
       go_region_with (go_at_call 35;refine(HFI.out _ (by exact HK9.out.drew)).mono ?_;rintro e w8 ⟨rfl,hw8⟩)
       all_goals
        subst hw8;have HK8:Hid (ab [] w w9.drew):=(HK.out.trans HK9.out).drew;go_wp2
        go_roundg (fs.length-(k+1))
        case measure=>omega
        case rel=>exact⟨k+1,by omega,rfl,by go_num,HM,HK8⟩
   ·have e:k=fs.length:=by omega
    subst e;have HX:Hid (r=0):=by show _=_;rw[HL.out];exact HZ.out
    have hnn:¬(fs.length:Int)<(fs.length:Int):=by omega
    have HRr:=(show Hid _ from HR.out.still HK.out);have hO0:aA wr ⟨none,0⟩ (b8 []):=World.ownsRow_nil _ _ _ _;have HSr:=(show Hid _ from lR.still HS.out HK.out)
    have hc1:Hid (∀ad,ao=some ad->∀j u,(oE fs)[j]?=some u->wr.cell? (ad.add j)=some u):=fun ad e j u hu=>by
     obtain⟨g,rfl⟩:=HAD.out ad e;rw[bK];exact F3 (by rw[<-e];exact HSr.out) j u hu
    have hFb:Hid ((b8 ([]:Fs)).n+fs.length<=1000000000):=by show 0+fs.length<=_;omega
    have HRn:Hid (∀m:Nat,(b8 ([]:Fs)).n+m=m):=fun m=>Nat.zero_add m
    go_upto_region 12 with fail
    go_wp2_with (at_builtin;refine eK _ rfl (.const (.slice none 0 0)) (.tmp 43) 33 rfl iF (.agg #[.string ⟨#[]⟩,.string ⟨#[]⟩]) 32 ⟨none,0⟩ (b8 []) Tryz.underlying33 hiF hzF0 hzF1 hzF2 rfl Nat.two_pos rfl hO0 ao fs.length cap (oE fs) rfl (sN fs) HN.out hc1.out (C3 fs) hFb.out (by omega) ?_;intro h5 w5 hw5 hg5;have K5:ab [] wr w5:=(hg5.kept.mono (by simp[Hd.blk]));have d5:=K5.get HRr.out.d (by simp);have v0:w5.cell? ⟨v,0,none⟩=some (.slice h.ao fs0.length h.cap):=(by rw[aa d5];rfl);have v1:w5.cell? ⟨v,1,none⟩=some (.bool on):=(by rw[aa d5];rfl);have e0:=ak d5 0;have e1:=ak d5 1;have vz:=ae d5);go_ret
    have er:(⟨(b8 []).e,(b8 []).size,(b8 []).n+fs.length,(b8 []).xs++oE fs⟩:dK)=b8 fs:=by
     show dK.mk _ _ (0+fs.length) ([]++oE fs)=_
     rw[Nat.zero_add];rfl
    rw[er]at hw5
    have hb5:∀q,h5.blk=some q->wr.heap.size<=q:=by
     intro q hq
     rcases hg5.blk with e | ⟨g,e,hg⟩
     ·rw[e]at hq;cases hq
     ·rw[e]at hq;cases hq;exact hg
    have HR5:=(HRr.out.newRow K5 hw5 hb5 (by omega) (HRn.out fs.length)).off;have HX0:=(show Hid _ from vv (fs0:=fs0) (Hr.out.trans HX.out));exact⟨am HX.out.symm,by rw[HX0.out];exact⟨h5,⟨_,_,_,_,HR5⟩,(((HK.out.trans K5).mono (by simp)).setCell (Or.inl (by simp)) _).setCell (Or.inl (by simp)) _,fun b hb=>Or.inr (Nat.le_trans HK.out.size (hb5 b hb))⟩⟩
end Go.Proofs.YtpddjjabfbfifaaGreat

import Derived.BigQuiet
import Derived.Test.YtlbhbocbakijbaaGreatG09
namespace Go.Proofs.YtlbhbocbakijbaaGreat
open Go.RowKit
set_option maxHeartbeats 0
def fG(b v:Nat)(fs:Fs)(f j:Nat)(bg:List Bool)(d:Db)(H:Nat->Hd)(w:World):Prop :=
 Calls Tryz.prog 91 #[.pointer (some ⟨b,0,none⟩),.int .i64 j] w fun e w'=>e=.returned (eM (bJ fs f j bg d).1)/\∃H',aE w' b 156 (cD v (bJ fs f j bg d).2.1) [] (bJ fs f j bg d).2.2 H'/\ag b w H w' H'
theorem fT{w w2:World}{b t sp F:Nat}{pre post:List Value}{d:Db}{H H2:Nat->Hd}(D:aE w2 b t pre post d H2)(T:dE b sp w H w2 H2)(h1:w.heap.size<=F)(h2:b≠F)(h3:¬cK H2 F)(a0 a1 a2 a3:Value) :
  aE ((((w2.setCell ⟨F,0,none⟩ a0).setCell ⟨F,1,none⟩ a1).setCell ⟨F,2,none⟩ a2).setCell ⟨F,3,none⟩ a3) b t pre post d H2 /\
  dE b sp w H ((((w2.setCell ⟨F,0,none⟩ a0).setCell ⟨F,1,none⟩ a1).setCell ⟨F,2,none⟩ a2).setCell ⟨F,3,none⟩ a3) H2 :=
 ⟨D.kept (fe _ _ _ _) (by simpa using h2) (fun x hx=>by simp;rintro rfl;exact h3 hx),T.beyond (fe _ _ _ _) (by simpa using h1)⟩
theorem lu(n s:ByteArray)(t:ByteArray)(u:Int)(f:Bool)(p:Nat):eM (fg n s ⟨t,u,f,p⟩)=.agg #[.int .i64 (if f=true then 7 else u),.string n,.int .i64 (aD s p),.int .i64 (bb s p)]:=rfl
structure lX(w w':World)(b v tt sp z:Nat)(fs:Fs)(more:List Value)(bg:List Bool)(d:Db)(H:Nat->Hd)(n s:ByteArray):Prop where
 D:aE w' b 156 (cD v bg) [] d H
 TB:bz w' v tt fs more
 SC:bi w' sp n s z
 F:w'.heap[w.heap.size+1]?=some (.cells aO 48 (0,0))
 M:dE b sp w H w' H
theorem lX.still{w w1 w2:World}{b v tt sp z:Nat}{fs:Fs}{more:List Value}{bg:List Bool}{d:Db}{H:Nat->Hd}{n s:ByteArray}(S:lX w w1 b v tt sp z fs more bg d H n s)(k:aa [] w1 w2):lX w w2 b v tt sp z fs more bg d H n s :=
 ⟨S.D.still k,S.TB.kept k (by simp),S.SC.kept k (by simp),k.get S.F (by simp),S.M.still k⟩
theorem lX.next{w w1 w2:World}{b v tt sp z z':Nat}{fs:Fs}{more:List Value}{bg:List Bool}{d:Db}{H:Nat->Hd}{n s:ByteArray}(S:lX w w1 b v tt sp z fs more bg d H n s)(k:aa [sp] w1 w2)(SC:bi w2 sp n s z')
  (h1:sp≠b) (h2:v≠sp) (h3:¬cK H sp) (h4:sp<w.heap.size):lX w w2 b v tt sp z' fs more bg d H n s :=
 ⟨S.D.kept k (by simpa using fun e=>h1 e.symm) (by intro x hx;simp;rintro rfl;exact h3 hx),S.TB.kept k (by simpa using h2),SC,k.get S.F (by simp;omega),S.M.scan k⟩
set_option maxRecDepth 100000 in
theorem ug(b v tt sp f x z:Nat)(fs:Fs)(more:List Value)(bg:List Bool)(hbg:bg.length=4)(d:Db)(H:Nat->Hd)(n s:ByteArray)(l c:Int)(w:World)
  (h:aE w b 156 (cD v bg) [] d H) (hn:bn fs x=n) (hsd:aj fs x=s) (hs:s.size<=1024) (hz:z<=s.size) (hsc:bi w sp n s z) (ht:bz w v tt fs more)
  (hspb:sp≠b) (hvs:v≠sp) (hsi:¬cK H sp)
  (RF:Hid (∀(j:Nat) (w':World),j<fs.length->aE w' b 156 (cD v bg) [] d H->bz w' v tt fs more->fG b v fs f j bg d H w')) :
  Calls Tryz.prog 121 #[.pointer (some ⟨b,0,none⟩),.pointer (some ⟨sp,0,none⟩),.agg #[.string n,.int .i64 l,.int .i64 c]] w fun e w' =>
   e=.returned (eM (jV (bJ fs f) fs x z ⟨n,l,c⟩ bg d).1.1)/\∃H',aE w' b 156 (cD v (jV (bJ fs f) fs x z ⟨n,l,c⟩ bg d).1.2.1) [] (jV (bJ fs f) fs x z ⟨n,l,c⟩ bg d).1.2.2 H'/\dE b sp w H w' H' /\
    (((jV (bJ fs f) fs x z ⟨n,l,c⟩ bg d).1.1.1==0)=true->bi w' sp n s (jV (bJ fs f) fs x z ⟨n,l,c⟩ bg d).2):=by
 obtain⟨W,hW⟩:∃W,W=((w.alloc (.cells #[.string n,.int .i64 l,.int .i64 c] 46)).alloc (.cells #[.int .i64 0,.string ⟨#[]⟩,.int .i64 0,.int .i64 0] 48)):=⟨_,rfl⟩
 have hK:aa [] w W:=by rw[hW];exact((aa.refl [] w).alloc _).alloc _
 have hbw:=h.lt;have hspw:=ac hsc;have hvw:=ht.lt;have D:aE W b 156 (cD v bg) [] d H:=h.still hK;have SC:bi W sp n s z:=hsc.kept hK (by simp);have TB:bz W v tt fs more:=ht.kept hK (by simp)
 have hP:W.heap[w.heap.size]?=some (.cells #[.string n,.int .i64 l,.int .i64 c] 46 (0,0)):=by
  rw[hW];exact((aa.refl [] _).alloc _).get (heap_alloc_new _ _) (by simp)
 have hF:W.heap[w.heap.size+1]?=some (.cells aO 48 (0,0)):=by
  rw[hW];have:=heap_alloc_new (w.alloc (.cells #[.string n,.int .i64 l,.int .i64 c] 46)) (.cells #[.int .i64 0,.string ⟨#[]⟩,.int .i64 0,.int .i64 0] 48);simpa [aO] using this
 have HNI:Hid (∀k,w.heap.size<=k->¬cK H k):=fun k hk hm=>by have:=h.inlt hm;omega
 have HW:=(show Hid _ from hW.symm);have hW2:=ac hF;have MK:Hid (dE b sp w H W H):=(dE.refl b sp w H).still hK;clear hW h hsc ht;have HI:Hid (jV (bJ fs f) fs x z ⟨n,l,c⟩ bg d=match wf fs x z ⟨n,l,c⟩ d with | .inl q=>((q,bg,d),z) | .inr (j,z')=>(bJ fs f j bg d,z')):=rfl;have HJ:Hid (wf fs x z ⟨n,l,c⟩ d=_):=(show wf fs x z ⟨n,l,c⟩ d=_ from by unfold wf;rw[hn,hsd])
 cases ho:eF d
 ·have nl1:=cT s z hz
  have tx1:=jD s z hs;have nl2:=cT s (ak s z).2 nl1.2.1;have hfl:=tT (ak s z).1.text fs;generalize hr1:ak s z=r1 at *;obtain⟨⟨t1,u1,f1,p1⟩,z1⟩:=r1;simp only at nl1 tx1 nl2 hfl HJ;have tx2:=jD s z1 hs;generalize hr2:ak s z1=r2 at *;obtain⟨⟨t2,u2,f2,p2⟩,z2⟩:=r2;simp only at nl2 tx2 HJ;rw[ho]at HJ;have S0:lX w W b v tt sp z fs more bg d H n s:=⟨D,TB,SC,hF,MK.out⟩;go_enter Tryz.func121,Tryz.ntmps121
  go_upto_region 1 with fail
  rw[HW.out];go_wp2_with fail;refine(mE b 156 5 (cD v bg) [] d H _ D (fj v bg hbg)).mono ?_;rintro e w1 ⟨rfl,hw1⟩;subst hw1;rw[ho];go_wp2_with fail;refine(mB sp z n s _ hs hz SC).mono ?_;rintro e w2 ⟨rfl,SC2,hk2⟩;rw[hr1]at SC2 ⊢;simp only[dq]at SC2 ⊢;have S2:=S0.next hk2 SC2 hspb hvs hsi hspw;obtain⟨W3,hW3⟩:∃W3,W3=w2.alloc (.cells #[.string t1,.int .i64 u1,.bool f1,.string n,.int .i64 (aD s p1),.int .i64 (bb s p1)] 182):=⟨_,rfl⟩
  have HW3:=(show Hid _ from hW3.symm);have S3:lX w W3 b v tt sp z1 fs more bg d H n s:=by rw[hW3];exact S2.still ((aa.refl [] _).alloc _)
  have I3:fN W3 w2.heap.size n s ⟨t1,u1,f1,p1⟩:=by rw[hW3];exact heap_alloc_new _ _
  clear hW3 S0 S2 SC2 hk2 D TB SC hP hF hK HW hr1
  go_upto_region 4 with fail
  rw[HW3.out];clear HW3;obtain⟨a0,a1,a2,a3,a4,a5⟩:=I3.cells;go_wp2_with fail;refine(bO t1 n u1 (aD s p1) (bb s p1) f1 _).mono ?_;rintro e w4 ⟨rfl,hk4⟩;have S4:=S3.still hk4;have I4:=I3.kept hk4 (by simp);clear a0 a1 a2 a3 a4 a5 S3 I3 hk4;obtain⟨a0,a1,a2,a3,a4,a5⟩:=I4.cells;have hb2:=ac I4;have hF4w:=ac S4.F
  cases hw1:(u1==0 && !f1)
  ·have HT:Hid (jV (bJ fs f) fs x z ⟨n,l,c⟩ bg d=((fg n s ⟨t1,u1,f1,p1⟩,bg,d),z)):=by
    show _=_;rw[HI.out,HJ.out];simp[aA,hw1]
   clear HI HJ;go_wp2_with fail;refine(iT t1 n u1 (aD s p1) (bb s p1) f1 _).mono ?_;rintro e w5 ⟨rfl,hk5⟩;obtain⟨q,hq⟩:∃q:Int,Hid ((if f1=true then(7:Int) else u1)=q):=⟨_,rfl⟩
   rw[hq.out];have S5:=S4.still hk5;obtain⟨j0,j1,j2,j3⟩:=bt S5.F;have y:=an S5.F;have HA':=(show Hid _ from fun a0 a1 a2 a3=>fT S5.D S5.M (F:=w.heap.size+1) (by omega) (by omega) (HNI.out _ (by omega)) a0 a1 a2 a3);clear a0 a1 a2 a3 a4 a5;go_wp2
   exact bodyPost_ret (v:=.agg #[.int .i64 q,.string n,.int .i64 (aD s p1),.int .i64 (bb s p1)]) (by simp[results,Tryz.results121,go_sem,j0,j1,j2,j3]) rfl
    ⟨by rw[HT.out,lu,hq.out],H,by rw[HT.out];exact(HA'.out _ _ _ _).1,(HA'.out _ _ _ _).2,by
     rw[HT.out];intro hh
     exfalso
     simp only[fg]at hh
     cases f1
     ·simp at hw1 hh;exact hw1 hh
     ·simp at hh⟩
  ·have hu1:u1=0:=by simp at hw1;exact hw1.1
   have hf1:f1=false:=by simp at hw1;exact hw1.2
   subst hu1 hf1
   cases hd1:dh t1
   ·have b0:w4.cell? ⟨b,0,none⟩=some (.pointer (some ⟨v,0,none⟩)):=S4.D.preCell 0 (by simp[cD])
    rcases hfl with hneg | ⟨j,hj,hjf⟩
    ·have HT:Hid (jV (bJ fs f) fs x z ⟨n,l,c⟩ bg d=(((6,eT n s p1),bg,d),z)):=by
      show _=_;rw[HI.out,HJ.out];simp[aA,hd1,hneg]
     clear HI HJ
     go_upto_region 8 with (go_at_call 142;refine(cM t1 _ (by omega)).mono ?_;rintro e w5 ⟨rfl,rfl⟩)
     go_quiet ((go_at_call 41;exact Calls.quiet_of_same (ji v tt fs more t1 _ (S4.still ((aa.refl [] _).drewN _)).TB)))
     have S5:=S4.still ((aa.refl [] _).drewN nq);rw[hneg];obtain⟨j0,j1,j2,j3⟩:=bt S4.F;have y:=an S4.F;have HA':=(show Hid _ from fun a0 a1 a2 a3=>fT S5.D S5.M (F:=w.heap.size+1) (by omega) (by omega) (HNI.out _ (by omega)) a0 a1 a2 a3);go_wp2
     exact bodyPost_ret (v:=.agg #[.int .i64 6,.string n,.int .i64 (aD s p1),.int .i64 (bb s p1)]) (by simp[results,Tryz.results121,go_sem,j0,j1,j2,j3]) rfl
      ⟨by rw[HT.out];rfl,H,by rw[HT.out];exact(HA'.out _ _ _ _).1,(HA'.out _ _ _ _).2,by rw[HT.out];intro hh;cases hh⟩
    ·go_upto_region 8 with (go_at_call 142;refine(cM t1 _ (by omega)).mono ?_;rintro e w5 ⟨rfl,rfl⟩)
     go_quiet ((go_at_call 41;exact Calls.quiet_of_same (ji v tt fs more t1 _ (S4.still ((aa.refl [] _).drewN _)).TB)))
     rw[hjf];have S5:=S4.still ((aa.refl [] _).drewN nq);go_wp2_with fail;refine(mB sp z1 n s _ hs nl1.2.1 S5.SC).mono ?_;rintro e w6 ⟨rfl,SC6,hk6⟩;rw[hr2]at SC6 ⊢;simp only[dq]at SC6 ⊢;have S6:=S5.next hk6 SC6 hspb hvs hsi hspw;obtain⟨W7,hW7⟩:∃W7,W7=w6.alloc (.cells #[.string t2,.int .i64 u2,.bool f2,.string n,.int .i64 (aD s p2),.int .i64 (bb s p2)] 182):=⟨_,rfl⟩
     have HW7:=(show Hid _ from hW7.symm);have S7:lX w W7 b v tt sp z2 fs more bg d H n s:=by rw[hW7];exact S6.still ((aa.refl [] _).alloc _)
     have I7:fN W7 w6.heap.size n s ⟨t2,u2,f2,p2⟩:=by rw[hW7];exact heap_alloc_new _ _
     clear hW7 S4 S5 S6 SC6 hk6 I4 a0 a1 a2 a3 a4 a5 b0
     go_upto_region 12 with fail
     rw[HW7.out];clear HW7;obtain⟨a0,a1,a2,a3,a4,a5⟩:=I7.cells;go_wp2_with fail;refine(bO t2 n u2 (aD s p2) (bb s p2) f2 _).mono ?_;rintro e w8 ⟨rfl,hk8⟩;have S8:=S7.still hk8;have I8:=I7.kept hk8 (by simp);clear a0 a1 a2 a3 a4 a5 S7 I7 hk8;obtain⟨a0,a1,a2,a3,a4,a5⟩:=I8.cells;have hb8:=ac I8;have hF8w:=ac S8.F;have hjn:¬((j:Int)<0):=by omega
     cases hw2:(u2==0 && !f2)
     ·have HT:Hid (jV (bJ fs f) fs x z ⟨n,l,c⟩ bg d=((fg n s ⟨t2,u2,f2,p2⟩,bg,d),z)):=by
       show _=_;rw[HI.out,HJ.out,hjf];simp[aA,hd1,hw2,hjn]
      clear HI HJ;go_wp2_with fail;refine(iT t2 n u2 (aD s p2) (bb s p2) f2 _).mono ?_;rintro e w9 ⟨rfl,hk9⟩;obtain⟨q,hq⟩:∃q:Int,Hid ((if f2=true then(7:Int) else u2)=q):=⟨_,rfl⟩
      rw[hq.out];have S9:=S8.still hk9;obtain⟨j0,j1,j2,j3⟩:=bt S9.F;have y:=an S9.F;have HA':=(show Hid _ from fun a0 a1 a2 a3=>fT S9.D S9.M (F:=w.heap.size+1) (by omega) (by omega) (HNI.out _ (by omega)) a0 a1 a2 a3);clear a0 a1 a2 a3 a4 a5;go_wp2
      exact bodyPost_ret (v:=.agg #[.int .i64 q,.string n,.int .i64 (aD s p2),.int .i64 (bb s p2)]) (by simp[results,Tryz.results121,go_sem,j0,j1,j2,j3]) rfl
       ⟨by rw[HT.out,lu,hq.out],H,by rw[HT.out];exact(HA'.out _ _ _ _).1,(HA'.out _ _ _ _).2,by
        rw[HT.out];intro hh
        exfalso
        simp only[fg]at hh
        cases f2
        ·simp at hw2 hh;exact hw2 hh
        ·simp at hh⟩
     ·have hu2:u2=0:=by simp at hw2;exact hw2.1
      have hf2:f2=false:=by simp at hw2;exact hw2.2
      subst hu2 hf2
      cases he2:(t2.toList == [36,93])
      ·have HT:Hid (jV (bJ fs f) fs x z ⟨n,l,c⟩ bg d=(((5,eT n s p2),bg,d),z)):=by
        show _=_;rw[HI.out,HJ.out,hjf];simp[aA,hd1,he2,hjn]
       clear HI HJ;obtain⟨j0,j1,j2,j3⟩:=bt S8.F;have y:=an S8.F;have HA':=(show Hid _ from fun a0 a1 a2 a3=>fT S8.D S8.M (F:=w.heap.size+1) (by omega) (by omega) (HNI.out _ (by omega)) a0 a1 a2 a3);go_wp2
       exact bodyPost_ret (v:=.agg #[.int .i64 5,.string n,.int .i64 (aD s p2),.int .i64 (bb s p2)]) (by simp[results,Tryz.results121,go_sem,j0,j1,j2,j3]) rfl
        ⟨by rw[HT.out];rfl,H,by rw[HT.out];exact(HA'.out _ _ _ _).1,(HA'.out _ _ _ _).2,by rw[HT.out];intro hh;cases hh⟩
      ·have HT:Hid (jV (bJ fs f) fs x z ⟨n,l,c⟩ bg d=(bJ fs f j bg d,z2)):=by
        show _=_;rw[HI.out,HJ.out,hjf];simp[aA,hd1,he2,hjn]
       clear HI HJ;have RJ:=RF.out j w8 hj S8.D S8.TB;unfold fG at RJ;have HRJ:=(show Hid _ from RJ);clear RJ RF;generalize bJ fs f j bg d=R at *;obtain⟨⟨r,pf,pl,pc⟩,bg',d'⟩:=R;simp only[eM]at HRJ;go_wp2_with fail;refine Calls.mono HRJ.out ?_;rintro e w9 ⟨rfl,H9,D9,T9⟩;have F9:=T9.1.get S8.F (by rintro (e | e);omega;exact HNI.out _ (by omega) e);have SC9:bi w9 sp n s z2:=T9.1.get S8.SC (by rintro (e | e);exact hspb e;exact hsi e);obtain⟨j0,j1,j2,j3⟩:=bt F9;have y:=an F9;have HA':=(show Hid _ from fun a0 a1 a2 a3=>fT D9 (S8.M.trans (T9.moved sp)) (F:=w.heap.size+1) (by omega) (by omega) (T9.fresh _ hF8w (HNI.out _ (by omega))) a0 a1 a2 a3);have HSC:=(show Hid _ from fun a0 a1 a2 a3=>SC9.kept (fe (r:=w.heap.size+1) a0 a1 a2 a3) (by simp;omega));clear a0 a1 a2 a3 a4 a5;go_wp2
       exact bodyPost_ret (v:=.agg #[.int .i64 r,.string pf,.int .i64 pl,.int .i64 pc]) (by simp[results,Tryz.results121,go_sem,j0,j1,j2,j3]) rfl
        ⟨by rw[HT.out];rfl,H9,by rw[HT.out];exact(HA'.out _ _ _ _).1,(HA'.out _ _ _ _).2,by rw[HT.out];exact fun _=>HSC.out _ _ _ _⟩
   ·have HT:Hid (jV (bJ fs f) fs x z ⟨n,l,c⟩ bg d=(((5,eT n s p1),bg,d),z)):=by
     show _=_;rw[HI.out,HJ.out];simp[aA,hd1]
    clear HI HJ;obtain⟨j0,j1,j2,j3⟩:=bt S4.F;have y:=an S4.F;have HA':=(show Hid _ from fun a0 a1 a2 a3=>fT S4.D S4.M (F:=w.heap.size+1) (by omega) (by omega) (HNI.out _ (by omega)) a0 a1 a2 a3);go_wp2_with (go_at_call 142;refine(cM t1 _ (by omega)).mono ?_;rintro e w5 ⟨rfl,rfl⟩)
    exact bodyPost_ret (v:=.agg #[.int .i64 5,.string n,.int .i64 (aD s p1),.int .i64 (bb s p1)]) (by simp[results,Tryz.results121,go_sem,j0,j1,j2,j3]) rfl
     ⟨by rw[HT.out];rfl,H,by rw[HT.out];exact(HA'.out _ _ _ _).1,(HA'.out _ _ _ _).2,by rw[HT.out];intro hh;cases hh⟩
 ·have HT:Hid (jV (bJ fs f) fs x z ⟨n,l,c⟩ bg d=(((4,⟨n,l,c⟩),bg,d),z)):=by
   show _=_;rw[HI.out,HJ.out,ho];simp
  clear HI HJ;have i0:W.cell? ⟨w.heap.size,0,none⟩=some (.string n):=by rw[ab hP];rfl
  have i1:W.cell? ⟨w.heap.size,1,none⟩=some (.int .i64 l):=by rw[ab hP];rfl
  have i2:W.cell? ⟨w.heap.size,2,none⟩=some (.int .i64 c):=by rw[ab hP];rfl
  obtain⟨j0,j1,j2,j3⟩:=bt hF;have y:=an hF;have HA':=(show Hid _ from fun a0 a1 a2 a3=>fT D MK.out (F:=w.heap.size+1) (by omega) (by omega) (HNI.out _ (by omega)) a0 a1 a2 a3);go_enter Tryz.func121,Tryz.ntmps121
  go_upto_region 1 with fail
  rw[HW.out];go_wp2_with fail;refine(mE b 156 5 (cD v bg) [] d H _ D (fj v bg hbg)).mono ?_;rintro e w1 ⟨rfl,hw1⟩;subst hw1;rw[ho];go_wp2
  exact bodyPost_ret (v:=.agg #[.int .i64 4,.string n,.int .i64 l,.int .i64 c]) (by simp[results,Tryz.results121,go_sem,j0,j1,j2,j3]) rfl
   ⟨by rw[HT.out];rfl,H,by rw[HT.out];exact(HA'.out _ _ _ _).1,(HA'.out _ _ _ _).2,by rw[HT.out];intro hh;cases hh⟩
set_option maxRecDepth 100000 in
theorem sV(b v tt sp f x z:Nat)(fs:Fs)(more:List Value)(bg:List Bool)(hbg:bg.length=4)(d:Db)(H:Nat->Hd)(n s t:ByteArray)(l c:Int)(w:World)
  (h:aE w b 156 (cD v bg) [] d H) (hn:bn fs x=n) (hsd:aj fs x=s) (hs:s.size<=1024) (hz:z<=s.size) (hsc:bi w sp n s z) (ht:bz w v tt fs more)
  (hspb:sp≠b) (hvs:v≠sp) (hsi:¬cK H sp) (hsm:dF d 10000000) (htx:t.size<=1073741824) (hin:tz d 100000000)
  (RF:Hid (∀(j:Nat) (w':World),j<fs.length->aE w' b 156 (cD v bg) [] d H->bz w' v tt fs more->fG b v fs f j bg d H w')) :
  Calls Tryz.prog 105 #[.pointer (some ⟨b,0,none⟩),.pointer (some ⟨sp,0,none⟩),.agg #[.string t,.int .i64 0,.bool false,.string n,.int .i64 l,.int .i64 c]] w fun e w' =>
   e=.returned (eM (fY (bJ fs f) fs x z t ⟨n,l,c⟩ bg d).1.1)/\∃H',aE w' b 156 (cD v (fY (bJ fs f) fs x z t ⟨n,l,c⟩ bg d).1.2.1) [] (fY (bJ fs f) fs x z t ⟨n,l,c⟩ bg d).1.2.2 H'/\dE b sp w H w' H' /\
    (((fY (bJ fs f) fs x z t ⟨n,l,c⟩ bg d).1.1.1==0)=true->bi w' sp n s (fY (bJ fs f) fs x z t ⟨n,l,c⟩ bg d).2):=by
 cases hi:(t.toList == [36,91])
 ·have HT:fY (bJ fs f) fs x z t ⟨n,l,c⟩ bg d=((if((aS d t ⟨n,l,c⟩).1==0)=true then bT else((aS d t ⟨n,l,c⟩).1,⟨n,l,c⟩),bg,(aS d t ⟨n,l,c⟩).2),z):=by
   unfold fY;rw[hi];simp
  rw[HT];refine(nu b 156 v bg hbg d H _ t n l c w h hsm htx hin hi).mono ?_;rintro e w' ⟨rfl,H',D',T'⟩;exact⟨rfl,H',D',T'.moved sp,fun _=>T'.1.get hsc (by rintro (e | e);exact hspb e;exact hsi e)⟩
 ·have HT:fY (bJ fs f) fs x z t ⟨n,l,c⟩ bg d=jV (bJ fs f) fs x z ⟨n,l,c⟩ bg d:=by
   unfold fY;rw[hi];simp
  rw[HT];obtain⟨W,hW⟩:∃W,W=((w.alloc (.cells #[.string t,.int .i64 0,.bool false,.string n,.int .i64 l,.int .i64 c] 182)).alloc (.cells #[.int .i64 0,.string ⟨#[]⟩,.int .i64 0,.int .i64 0] 48)):=⟨_,rfl⟩
  have hK:aa [] w W:=by rw[hW];exact((aa.refl [] w).alloc _).alloc _
  have hbw:=h.lt;have hspw:=ac hsc
  have hI:W.heap[w.heap.size]?=some (.cells #[.string t,.int .i64 0,.bool false,.string n,.int .i64 l,.int .i64 c] 182 (0,0)):=by
   rw[hW];exact((aa.refl [] _).alloc _).get (heap_alloc_new _ _) (by simp)
  have hF:W.heap[w.heap.size+1]?=some (.cells aO 48 (0,0)):=by
   rw[hW];have:=heap_alloc_new (w.alloc (.cells #[.string t,.int .i64 0,.bool false,.string n,.int .i64 l,.int .i64 c] 182)) (.cells #[.int .i64 0,.string ⟨#[]⟩,.int .i64 0,.int .i64 0] 48);simpa [aO] using this
  have i0:W.cell? ⟨w.heap.size,0,none⟩=some (.string t):=by rw[ab hI];rfl
  have i3:W.cell? ⟨w.heap.size,3,none⟩=some (.string n):=by rw[ab hI];rfl
  have i4:W.cell? ⟨w.heap.size,4,none⟩=some (.int .i64 l):=by rw[ab hI];rfl
  have i5:W.cell? ⟨w.heap.size,5,none⟩=some (.int .i64 c):=by rw[ab hI];rfl
  have IC:=ug b v tt sp f x z fs more bg hbg d H n s l c W (h.still hK) hn hsd hs hz (hsc.kept hK (by simp)) (ht.kept hK (by simp)) hspb hvs hsi RF;have HIC:=(show Hid _ from IC);have HNI:Hid (∀k,w.heap.size<=k->¬cK H k):=fun k hk hm=>by have:=h.inlt hm;omega
  have HW:=(show Hid _ from hW.symm);have hFw:=ac hF;clear hW IC RF HT h;generalize jV (bJ fs f) fs x z ⟨n,l,c⟩ bg d=R at *;obtain⟨⟨⟨r,pf,pl,pc⟩,bg',d'⟩,z'⟩:=R;simp only[eM]at HIC ⊢;go_enter Tryz.func105,Tryz.ntmps105
  go_upto_region 1 with fail
  rw[HW.out];go_wp2_with fail;refine Calls.mono HIC.out ?_;rintro e w2 ⟨rfl,H2,D2,M2,hs2⟩;have hF2:=M2.1.get hF (by rintro (e | e | e);omega;omega;exact HNI.out _ (by omega) e);obtain⟨j0,j1,j2,j3⟩:=bt hF2;have y:=an hF2;have HA':=(show Hid _ from fun a0 a1 a2 a3=>fT D2 (M2.first hK) (F:=w.heap.size+1) (by omega) (by omega) (M2.fresh _ hFw (HNI.out _ (by omega))) a0 a1 a2 a3);have HSC:=(show Hid _ from fun a0 a1 a2 a3 hh=>(hs2 hh).kept (fe (r:=w.heap.size+1) a0 a1 a2 a3) (by simp;omega));clear hs2 i0 i3 i4 i5;go_wp2
  exact bodyPost_ret (v:=.agg #[.int .i64 r,.string pf,.int .i64 pl,.int .i64 pc]) (by simp[results,Tryz.results105,go_sem,j0,j1,j2,j3]) rfl
   ⟨rfl,H2,(HA'.out _ _ _ _).1,(HA'.out _ _ _ _).2,fun hh=>HSC.out _ _ _ _ hh⟩
theorem uy(n d:ByteArray)(w:World) :
  Calls Tryz.prog 101 #[.agg #[.string n,.string d]] w fun e w'=>∃s,e=.returned (.pointer (some ⟨s,0,none⟩))/\w.heap.size<=s/\bi w' s n d 0/\aa [] w w':=by
 go_enter Tryz.func101,Tryz.ntmps101;go_wp2;go_ret;refine⟨w.heap.size+1,rfl,by omega,?_,((aa.refl _ _).alloc _).alloc _⟩;have:=heap_alloc_new (w.alloc (.cells #[.string n,.string d] 86)) (.cells #[.string n,.string d,.int .i64 0,.int .i64 1,.int .i64 1] 204);simpa [bi,ip,aD,bb] using this
theorem ag.beyond{b:Nat}{w wr w':World}{H H1:Nat->Hd}{S:List Nat}(T:ag b w H wr H1)(k:aa S wr w')(hS:∀x,x∈S->w.heap.size<=x):ag b w H w' H1 :=
 ⟨⟨k.os.trans T.1.os,k.tape.trans T.1.tape,k.output.trans T.1.output,Nat.le_trans T.1.size k.size,fun i hi hn=>by
  rw[<-T.1.block i hi hn];exact k.block i (Nat.lt_of_lt_of_le hi T.1.size) (fun hm=>by have:=hS i hm;omega)⟩,T.2⟩
theorem ag.word{b sp:Nat}{w wr w':World}{H H1 H2:Nat->Hd}(T:ag b w H wr H1)(M:dE b sp wr H1 w' H2)(hsp:w.heap.size<=sp):ag b w H w' H2:=by
 refine⟨⟨M.1.os.trans T.1.os,M.1.tape.trans T.1.tape,M.1.output.trans T.1.output,Nat.le_trans T.1.size M.1.size,?_⟩,?_⟩
 ·intro k hk hn
  rw[<-T.1.block k hk hn];refine M.1.block k (Nat.lt_of_lt_of_le hk T.1.size) ?_;rintro (e | e | hm)
  ·exact hn (Or.inl e)
  ·omega
  ·rcases T.2 k hm with h | h
   ·exact hn (Or.inr h)
   ·omega
 ·intro k hk
  rcases M.2 k hk with h | h
  ·exact T.2 k h
  ·exact Or.inr (Nat.le_trans T.1.size h)
theorem zO(v:Nat)(bg:List Bool)(j:Nat):(cD v bg).set (1+j) (.bool true)=cD v (bg.set j true):=by
 unfold cD;rw[Nat.add_comm 1 j,List.set_cons_succ,List.map_set]
theorem uK(v:Nat)(bg:List Bool)(j:Nat)(h:bg.length=4)(hj:j<4):(cD v bg)[1+j]?=some (.bool (bg.getD j true)):=by
 unfold cD;rw[Nat.add_comm 1 j,List.getElem?_cons_succ,List.getElem?_map,List.getD_eq_getElem?_getD];rw[List.getElem?_eq_getElem (by omega)];rfl
set_option maxRecDepth 100000 in
theorem pT(b v f j:Nat)(fs:Fs)(bg:List Bool)(hbg:bg.length=4)(d:Db)(H:Nat->Hd)(w:World)(hj:j<4)
  (h:aE w b 156 (cD v bg) [] d H) (hb:bg.getD j true=true):fG b v fs f j bg d H w:=by
 unfold fG bJ;rw[if_pos hb];have hbw:=h.lt;have c1:=h.preCell (1+j) (by rw[fj v bg hbg];omega);rw[uK v bg j hbg hj,hb]at c1;have HN:Hid (¬cK H w.heap.size):=fun hm=>by have:=h.inlt hm;omega
 go_enter Tryz.func91,Tryz.ntmps91;go_wp2
 exact bodyPost_ret (v:=.agg #[.int .i64 0,.string ⟨#[]⟩,.int .i64 0,.int .i64 0]) (by simp[results,Tryz.results91,go_sem]) rfl
  ⟨rfl,H,h.still ((aa.refl [] _).alloc _),(ag.refl _ _ _).still ((aa.refl [] _).alloc _)⟩
set_option maxRecDepth 100000 in
theorem qI(b v tt f:Nat)(fs:Fs)(more:List Value)(hsz:∀j,j<fs.length->(aj fs j).size<=1024)(hvb:v≠b)
  (IH:∀g,g<f->∀(j:Nat) (bg:List Bool) (d:Db) (H:Nat->Hd) (w:World) (m:Nat),j<fs.length->bg.length=4->iI d m->m+cI fs bg<=9000000->cI fs bg<=g->aE w b 156 (cD v bg) [] d H->bz w v tt fs more->¬cK H v->fG b v fs g j bg d H w)
  (j:Nat) (bg:List Bool) (d:Db) (H:Nat->Hd) (w:World) (m:Nat) (hj:j<fs.length) (hbg:bg.length=4) (hB:iI d m) (hm:m+cI fs bg<=9000000) (hf:cI fs bg<=f)
  (h:aE w b 156 (cD v bg) [] d H) (ht:bz w v tt fs more) (hvi:¬cK H v) (hb:bg.getD j true=false):fG b v fs f j bg d H w:=by
 unfold fG bJ;rw[if_neg (by rw[hb];simp)];have hlen:=ht.2;have hs:=hsz j hj;have hms:=pB fs bg j hbg hb;obtain⟨n,hn⟩:∃n,bn fs j=n:=⟨_,rfl⟩
 obtain⟨s,hsd⟩:∃s,aj fs j=s:=⟨_,rfl⟩
 rw[hsd]at hs hms;have hbw:=h.lt;have hfr:=h.free;have hvw:=ht.lt;have c1:=h.preCell (1+j) (by rw[fj v bg hbg];omega);rw[uK v bg j hbg (by omega),hb]at c1;have c0:=h.preCell 0 (by simp[cD]);have c0':w.cell? ⟨b,0,none⟩=some (.pointer (some ⟨v,0,none⟩)):=c0;clear c0;have P1:=h.pre (1+j) (by rw[fj v bg hbg];omega) (.bool true);rw[zO]at P1;obtain⟨bg1,hbg1⟩:∃bg1,bg.set j true=bg1:=⟨_,rfl⟩
 have hl1:bg1.length=4:=by rw[<-hbg1];simpa using hbg
 rw[hbg1]at P1 hms ⊢;clear hbg1;obtain⟨W,hW⟩:∃W,W=(w.setCell ⟨b,1+j,none⟩ (.bool true)).alloc (.cells #[.int .i64 0,.string ⟨#[]⟩,.int .i64 0,.int .i64 0] 48):=⟨_,rfl⟩
 have D1:aE W b 156 (cD v bg1) [] d H:=by rw[hW];exact P1.1.still ((aa.refl [] _).alloc _)
 have T1:ag b w H W H:=by rw[hW];exact P1.2.still ((aa.refl [] _).alloc _)
 have F1:W.heap[w.heap.size]?=some (.cells aO 48 (0,0)):=by
  rw[hW];have:=heap_alloc_new (w.setCell ⟨b,1+j,none⟩ (.bool true)) (.cells aO 48);simpa [World.setCell,aO] using this
 have ht1:bz W v tt fs more:=⟨T1.1.get ht.1 (by rintro (e | e);exact hvb e;exact hvi e),ht.2⟩;have HNI:Hid (∀k,w.heap.size<=k->¬cK H k):=fun k hk hm=>by have:=h.inlt hm;omega
 have HW:=(show Hid _ from hW.symm);have HIH:=(show Hid _ from IH);clear P1 hW IH;go_enter Tryz.func91,Tryz.ntmps91;go_wp2_with fail;rw[HW.out];clear HW c1 c0' hfr ht h;refine(BE v tt j fs more _ ht1 hj).mono ?_;rintro e w2 ⟨rfl,hk2⟩;rw[hn,hsd];go_wp2_with fail;refine(uy n s _).mono ?_;rintro e w3 ⟨sp,rfl,hsp,h3,hk3⟩;go_wp2_with fail;refine(mB sp 0 n s _ hs (by omega) h3).mono ?_;rintro e w4 ⟨rfl,h4,hk4⟩;have hWl:=ac F1;have hz2:=hk2.size;have hz3:=hk3.size;have hz4:=hk4.size;have hspw:w.heap.size<sp:=by omega
 have hspb:sp≠b:=by omega
 have hvs:v≠sp:=by omega
 have T4:ag b w H w4 H:=(((T1.still hk2).still hk3).beyond hk4 (by simp;omega));have F4:w4.heap[w.heap.size]?=some (.cells aO 48 (0,0)):=hk4.get (hk3.get (hk2.get F1 (by simp)) (by simp)) (by simp;omega);have D4:aE w4 b 156 (cD v bg1) [] d H:=((D1.still hk2).still hk3).kept hk4 (by simp;omega) (by intro k hk;simp;rintro rfl;exact HNI.out _ (by omega) hk);have TB4:bz w4 v tt fs more:=((ht1.kept hk2 (by simp)).kept hk3 (by simp)).kept hk4 (by simp;omega);have hsp4:=ac h4;clear D1 T1 F1 ht1 hk2 hk3 hk4 h3;simp only[dq];go_wp2
 go_loopg [7] s.size (fun gk _ wr=>∃(k g m1:Nat) (bg':List Bool) (d':Db) (H1:Nat->Hd),k<=s.size/\gk=s.size-k/\bg'.length=4/\iI d' m1/\m1+(s.size-k)+cI fs bg'<=9000000/\(s.size-k)+cI fs bg'+1<=g/\g<=f /\
  Hid (aQ fs f j 0 bg1 d=aQ fs g j k bg' d')/\bi wr sp n s (ak s k).2/\fN wr w4.heap.size n s (ak s k).1 /\
  wr.heap[w.heap.size]?=some (.cells aO 48 (0,0))/\aE wr b 156 (cD v bg') [] d' H1/\bz wr v tt fs more/\ag b w H wr H1/\(¬cK H1 sp/\¬cK H1 w4.heap.size/\¬cK H1 w.heap.size/\¬cK H1 v))
 case atStart=>exact⟨0,f,m,bg1,d,H,by omega,by omega,hl1,hB,by omega,by omega,Nat.le_refl _,rfl,h4.kept ((aa.refl [] _).alloc _) (by simp),heap_alloc_new _ _,((aa.refl [] _).alloc _).get F4 (by simp),D4.still ((aa.refl [] _).alloc _),TB4.kept ((aa.refl [] _).alloc _) (by simp),T4.still ((aa.refl [] _).alloc _),HNI.out _ (by omega),HNI.out _ (by omega),HNI.out _ (by omega),hvi⟩
 case round =>
  obtain⟨k,g,m1,bg',d',H1,hk,hg,hl',hB1,hm1,hfg,hgf,hR,h5,hI,hF,D,TB,T,hn1,hn2,hn3,hn4⟩:=hrel;obtain⟨g',rfl⟩:∃g',g=g'+1:=⟨g-1,by omega⟩
  clear D4 T4 F4 TB4 h4;have hnl:=cT s k hk;have htx:=jD s k hs;have SK:=vf fs g' (BP fs g').2 j k bg' d' m1 (by rw[hsd];exact hk) hl' hB1;have L1:=xZ fs g' j k bg' d';have L2:=oo fs g' j k bg' d';have L3:=su fs g' j k bg' d';have L4:=oX fs g' j k bg' d';have ST:eo fs g' j k bg' d'=fY (bJ fs g') fs j (ak s k).2 (ak s k).1.text (eT n s (ak s k).1.pos) bg' d':=by unfold eo;rw[hn,hsd]
  rw[hsd]at SK L1 L2 L3 L4;rw[hn]at L4;rw[ST]at SK L1 L2;have L6:aA (ak s k).1=false->(ak s k).1.fin=false->((ak s k).1.rule==0)=false:=kh;have HSK:=(show Hid _ from SK);have HL1:=(show Hid _ from L1);have HL2:=(show Hid _ from L2);have HL3:=(show Hid _ from L3);have HL4:=(show Hid _ from L4);have HL6:=(show Hid _ from L6);clear SK L1 L2 L3 L4 L6 ST;generalize hrr:ak s k=r at *;obtain⟨⟨t,u,fi,p⟩,z⟩:=r;clear hrr;simp only at h5 hI hnl htx HSK HL1 HL2 HL3 HL4 HL6;obtain⟨q0,q1,q2,q3,q4,q5⟩:=hI.cells;have hFw:=ac hF;have hsw:=ac h5;have hIw:=ac hI;have hDw:=D.lt
  cases hw:(u==0 && !fi)
  ·cases fi
   ·have HF:Hid (aQ fs f j 0 bg1 d=(fg n s ⟨t,u,false,p⟩,bg',d')):=hR.out.trans (HL4.out hw (by simp))
    have hu:(u==0)=false:=by simpa using hw
    clear HL1 HL2 HL3 HL4 HL6 HSK;go_wp2_with fail;refine(bO t n _ (aD s p) (bb s p) _ _).mono ?_;rintro e w5 ⟨rfl,hk5⟩;have hI5:=hI.kept hk5 (by simp);have hF5:=hk5.get hF (by simp);have D5:=D.still hk5;have T5:=T.still hk5;clear q0 q1 q2 q3 q4 q5 hI h5 hF D T hk5 TB;obtain⟨q0,q1,q2,q3,q4,q5⟩:=hI5.cells;go_wp2_with fail;refine(iT t n u (aD s p) (bb s p) _ _).mono ?_;rintro e w6 ⟨rfl,hk6⟩;simp only[Bool.false_eq_true,if_false];have hF6:=hk6.get hF5 (by simp);have D6:=D5.still hk6;have T6:=T5.still hk6;have HA':=(show Hid _ from fun a0 a1 a2 a3=>jk D6 T6 (F:=w.heap.size) (Nat.le_refl _) (by omega) hn3 a0 a1 a2 a3);obtain⟨z0,z1,z2,z3⟩:=bt hF6;have y:=an hF6;go_wp2
    exact bodyPost_ret (v:=.agg #[.int .i64 u,.string n,.int .i64 (aD s p),.int .i64 (bb s p)]) (by simp[results,Tryz.results91,go_sem,z0,z1,z2,z3]) rfl
     ⟨by rw[HF.out];rfl,H1,by rw[HF.out];exact(HA'.out _ _ _ _).1,(HA'.out _ _ _ _).2⟩
   ·cases ho:eF d'
    ·have HF:Hid (aQ fs f j 0 bg1 d=(bT,bg',d')):=hR.out.trans (HL3.out hw rfl ho)
     clear HL1 HL2 HL3 HL4 HL6 HSK;go_wp2_with fail;refine(bO t n _ (aD s p) (bb s p) _ _).mono ?_;rintro e w5 ⟨rfl,hk5⟩;have hI5:=hI.kept hk5 (by simp);have hF5:=hk5.get hF (by simp);have D5:=D.still hk5;have T5:=T.still hk5;clear q0 q1 q2 q3 q4 q5 hI h5 hF D T hk5 TB;obtain⟨q0,q1,q2,q3,q4,q5⟩:=hI5.cells;go_wp2_with fail;refine(mE b 156 5 (cD v bg') [] d' H1 _ D5 (fj v bg' hl')).mono ?_;rintro e w6 ⟨rfl,hw6⟩;subst hw6;rw[ho];have HA':=(show Hid _ from fun a0 a1 a2 a3=>jk D5 T5 (F:=w.heap.size) (Nat.le_refl _) (by omega) hn3 a0 a1 a2 a3);obtain⟨z0,z1,z2,z3⟩:=bt hF5;have y:=an hF5;go_wp2
     exact bodyPost_ret (v:=.agg #[.int .i64 0,.string ⟨#[]⟩,.int .i64 0,.int .i64 0]) (by simp[results,Tryz.results91,go_sem,z0,z1,z2,z3]) rfl
      ⟨by rw[HF.out];rfl,H1,by rw[HF.out];exact(HA'.out _ _ _ _).1,(HA'.out _ _ _ _).2⟩
    ·have HF:Hid (aQ fs f j 0 bg1 d=(fg n s ⟨t,u,true,p⟩,bg',d')):=hR.out.trans (HL4.out hw (by simp[ho]))
     clear HL1 HL2 HL3 HL4 HL6 HSK;go_wp2_with fail;refine(bO t n _ (aD s p) (bb s p) _ _).mono ?_;rintro e w5 ⟨rfl,hk5⟩;have hI5:=hI.kept hk5 (by simp);have hF5:=hk5.get hF (by simp);have D5:=D.still hk5;have T5:=T.still hk5;clear q0 q1 q2 q3 q4 q5 hI h5 hF D T hk5 TB;obtain⟨q0,q1,q2,q3,q4,q5⟩:=hI5.cells;go_wp2_with fail;refine(mE b 156 5 (cD v bg') [] d' H1 _ D5 (fj v bg' hl')).mono ?_;rintro e w6 ⟨rfl,hw6⟩;subst hw6;rw[ho];go_wp2_with fail;refine(iT t n u (aD s p) (bb s p) _ _).mono ?_;rintro e w7 ⟨rfl,hk7⟩;simp only[if_true];have hF7:=hk7.get hF5 (by simp);have D7:=D5.still hk7;have T7:=T5.still hk7;have HA':=(show Hid _ from fun a0 a1 a2 a3=>jk D7 T7 (F:=w.heap.size) (Nat.le_refl _) (by omega) hn3 a0 a1 a2 a3);obtain⟨z0,z1,z2,z3⟩:=bt hF7;have y:=an hF7;go_wp2
     exact bodyPost_ret (v:=.agg #[.int .i64 7,.string n,.int .i64 (aD s p),.int .i64 (bb s p)]) (by simp[results,Tryz.results91,go_sem,z0,z1,z2,z3]) rfl
      ⟨by rw[HF.out];rfl,H1,by rw[HF.out];exact(HA'.out _ _ _ _).1,(HA'.out _ _ _ _).2⟩
  ·have hu:u=0:=by simp at hw;exact hw.1
   have hfi:fi=false:=by simp at hw;exact hw.2
   subst hu hfi;have hsm:=hB1.small (N:=10000000) (by omega);have hsm2:=(hB1.small (N:=100000000) (by omega)).2
   have RW:=fun(w':World) (h':aE w' b 156 (cD v bg') [] d' H1) (hsc:bi w' sp n s z) (htb:bz w' v tt fs more)=>sV b v tt sp g' j z fs more bg' hl' d' H1 n s t (aD s p) (bb s p) w' h' hn hsd hs hnl.2.1 hsc htb hspb hvs hn1 hsm.1 (by omega) hsm2
    (fun jj ww hjj hdd htt=>HIH.out g' (by omega) jj bg' d' H1 ww m1 hjj hl' hB1 (by omega) (by omega) hdd htt hn4)
   have HRW:=(show Hid _ from RW);have HSK':=(show Hid _ from HSK.out hw);have HL1':=(show Hid _ from HL1.out hw);have HL2':=(show Hid _ from HL2.out hw);clear RW HL1 HL2 HL3 HL4 HL6 HSK;simp only[eT]at HSK' HL1' HL2';generalize fY (bJ fs g') fs j z t ⟨n,aD s p,bb s p⟩ bg' d'=Q at *;obtain⟨⟨⟨r,pf,pl,pc⟩,bg2,d2⟩,z2⟩:=Q;simp only[eM]at HSK' HL1' HL2' HRW;have hz2':=HSK'.out.2;obtain⟨hl2,hme,m2,hB2,hm2⟩:=HSK'.out.1;simp only at hl2 hme hB2 hm2 hz2';clear HSK'
   cases hr:(r==0)
   ·have hr':(r != 0)=true:=by simp[bne,hr]
    have HF:Hid (aQ fs f j 0 bg1 d=((r,⟨pf,pl,pc⟩),bg2,d2)):=hR.out.trans (HL2'.out hr);clear HL1' HL2';go_wp2_with fail;refine(bO t n _ (aD s p) (bb s p) _ _).mono ?_;rintro e w5 ⟨rfl,hk5⟩;have hI5:=hI.kept hk5 (by simp);have h55:=h5.kept hk5 (by simp);have hF5:=hk5.get hF (by simp);have D5:=D.still hk5;have T5:=T.still hk5;have TB5:=TB.kept hk5 (by simp);clear q0 q1 q2 q3 q4 q5 hI h5 hF D T TB hk5;obtain⟨q0,q1,q2,q3,q4,q5⟩:=hI5.cells;go_wp2_with fail;refine(HRW.out _ D5 h55 TB5).mono ?_;rintro e w6 ⟨rfl,H2,D6,M6,-⟩;have hF6:=M6.1.get hF5 (by rintro (e | e | e);omega;omega;exact hn3 e);have m3:=M6.fresh w.heap.size (ac hF5) hn3;have T7:=T5.word M6 (by omega);have hF6w:=ac hF6;have y6:=an hF6;obtain⟨z0,z1,z2,z3⟩:=bt hF6;have HA':=(show Hid _ from fun a0 a1 a2 a3=>jk D6 T7 (F:=w.heap.size) (Nat.le_refl _) (by omega) m3 a0 a1 a2 a3);clear q0 q1 q2 q3 q4 q5;go_wp2
    exact bodyPost_ret (v:=.agg #[.int .i64 r,.string pf,.int .i64 pl,.int .i64 pc]) (by simp[results,Tryz.results91,go_sem,hF6w,z0,z1,z2,z3]) rfl
     ⟨by rw[HF.out];rfl,H2,by rw[HF.out];exact(HA'.out _ _ _ _).1.still ((aa.refl [] _).alloc _),((HA'.out _ _ _ _).2.still ((aa.refl [] _).alloc _))⟩
   ·have hr':(r != 0)=false:=by simp[bne,hr]
    have HF:Hid (aQ fs f j 0 bg1 d=aQ fs g' j z2 bg2 d2):=hR.out.trans (HL1'.out hr);clear HL1' HL2';go_wp2_with fail;refine(bO t n _ (aD s p) (bb s p) _ _).mono ?_;rintro e w5 ⟨rfl,hk5⟩;have hI5:=hI.kept hk5 (by simp);have h55:=h5.kept hk5 (by simp);have hF5:=hk5.get hF (by simp);have D5:=D.still hk5;have T5:=T.still hk5;have TB5:=TB.kept hk5 (by simp);clear q0 q1 q2 q3 q4 q5 hI h5 hF D T TB hk5;obtain⟨q0,q1,q2,q3,q4,q5⟩:=hI5.cells;go_wp2_with fail;refine(HRW.out _ D5 h55 TB5).mono ?_;rintro e w6 ⟨rfl,H2,D6,M6,hs6⟩;have h6:=hs6 hr;have hF6:=M6.1.get hF5 (by rintro (e | e | e);omega;omega;exact hn3 e);have hI6:fN w6 w4.heap.size n s ⟨t,0,false,p⟩:=M6.1.get hI5 (by rintro (e | e | e);omega;omega;exact hn2 e);have TB6:bz w6 v tt fs more:=⟨M6.1.get TB5.1 (by rintro (e | e | e);exact hvb e;exact hvs e;exact hn4 e),TB5.2⟩;have e1:=M6.fresh sp (ac h55) hn1;have e2:=M6.fresh w4.heap.size (ac hI5) hn2;have e3:=M6.fresh w.heap.size (ac hF5) hn3;have e4:=M6.fresh v TB5.lt hn4;have T7:=T5.word M6 (by omega);have hF6w:=ac hF6;have hI6w:=ac hI6;have h6w:=ac h6;go_wp2_with fail;refine(mB sp z2 n s _ hs hz2'.2 (by exact h6.kept ((aa.refl [] _).alloc _) (by simp))).mono ?_;rintro e w8 ⟨rfl,h8,hk8⟩;have hI8:=(hI6.kept ((aa.refl [] _).alloc _) (by simp)).kept hk8 (by simp;omega);have hF8:=hk8.get (((aa.refl [] _).alloc _).get hF6 (by simp)) (by simp;omega);have D8:=(D6.still ((aa.refl [] _).alloc _)).kept hk8 (by simp;omega) (by intro k hk;simp;rintro rfl;exact e1 hk);have TB8:=(TB6.kept ((aa.refl [] _).alloc _) (by simp)).kept hk8 (by simp;omega);have T8:=(T7.still ((aa.refl [] _).alloc _)).beyond hk8 (by simp;omega);have yy:=an hI8;have hI8w:=ac hI8;clear q0 q1 q2 q3 q4 q5;obtain⟨q0,q1,q2,q3,q4,q5⟩:=hI8.cells;simp only[dq];go_wp2
    go_roundg (s.size-z2)
    case measure=>omega
    case rel =>
     exact⟨z2,g',m2,bg2,d2,H2,hz2'.2,rfl,hl2,hB2,by omega,by omega,by omega,HF.out,d9 h8 (by omega) _ _ _ _ _ _,ki hI8 _,nA hF8 (by omega) _ _ _ _ _ _,
      D8.kept (xd _ _ _ _ _ _) (by simp;omega) (by intro k hk;simp;rintro rfl;exact e2 hk),TB8.kept (xd _ _ _ _ _ _) (by simp;omega),T8.beyond (xd _ _ _ _ _ _) (by simp;omega),e1,e2,e3,e4⟩
theorem sU(b v tt:Nat)(fs:Fs)(more:List Value)(hsz:∀j,j<fs.length->(aj fs j).size<=1024)(hvb:v≠b)(f:Nat):∀(j:Nat) (bg:List Bool) (d:Db) (H:Nat->Hd) (w:World) (m:Nat),j<fs.length->bg.length=4->iI d m->m+cI fs bg<=9000000->cI fs bg<=f->aE w b 156 (cD v bg) [] d H->bz w v tt fs more->¬cK H v->fG b v fs f j bg d H w:=by
 induction f using Nat.strongRecOn with
 | _ f IH =>
  intro j bg d H w m hj hbg hB hm hf h ht hvi
  cases hb:bg.getD j true with
  | true=>exact pT b v f j fs bg hbg d H w (by have:=ht.2;omega) h hb
  | false=>exact qI b v tt f fs more hsz hvb IH j bg d H w m hj hbg hB hm hf h ht hvi hb
structure eU(w:World)(l:List St)(H:Nat->Hd):Prop where
  own:au w (H 6) (eP l H)
  syms:∀i s,l[i]?=some s->au w (H (10+2*i)) (am s.symbols)
  prfs:∀i s,l[i]?=some s->au w (H (11+2*i)) (dZ s.proof)
theorem aE.record{w:World}{b t:Nat}{pre post:List Value}{d:Db}{H:Nat->Hd}(h:aE w b t pre post d H):eU w d.sts H:=by
  refine⟨h.own 6,fun i s hs=>?_,fun i s hs=>?_⟩
  · have:=h.own (10+2*i)
    rw[show 10+2*i=2*i+10 by omega]at this ⊢;have e:aF d H (2*i+10)=am s.symbols:=by simp[aF,inner,bS,hs]
    rw[e]at this;exact this
  · have:=h.own (11+2*i)
    rw[show 11+2*i=(2*i+1)+10 by omega]at this ⊢;have q:(2*i+1) % 2=1:=by omega
    have q2:(2*i+1) / 2=i:=by omega
    have e:aF d H ((2*i+1)+10)=dZ s.proof:=by simp[aF,inner,mK,q,q2,hs]
    rw[e]at this;exact this
theorem eU.keptP{w w':World}{l:List St}{H:Nat->Hd}{P:Nat->Prop}(h:eU w l H)(k:dw P w w')(hP:∀x,cK H x->¬P x):eU w' l H :=
  ⟨h.own.moved (fun x hx=>k.block x (h.own.lt hx) (hP x ⟨6,hx⟩)),fun i s hs=>(h.syms i s hs).moved (fun x hx=>k.block x ((h.syms i s hs).lt hx) (hP x ⟨_,hx⟩)),fun i s hs=>(h.prfs i s hs).moved (fun x hx=>k.block x ((h.prfs i s hs).lt hx) (hP x ⟨_,hx⟩))⟩
theorem eU.kept{w w':World}{l:List St}{H:Nat->Hd}{S:List Nat}(h:eU w l H)(k:aa S w w')(hP:∀x,cK H x->x∉S):eU w' l H :=
  h.keptP (k.toP (P:=(·∈S)) (fun _ hm _=>hm)) hP
theorem eU.still{w w':World}{l:List St}{H:Nat->Hd}(h:eU w l H)(k:aa [] w w'):eU w' l H:=h.kept k (by simp)
def gu:Nat->Hd:=fun _=>⟨none,0⟩
theorem nt(k:Nat):¬cK gu k:=by rintro ⟨i,h⟩;simp[gu,Hd.blk]at h
def yO:List Bool:=[false,false,false,false]
theorem aE.begin{w:World}{b t:Nat}{pre:List Value}(h:w.heap[b]?=some (.cells (pre++(bu bh gu++[])).toArray t (0,0))):aE w b t pre [] bh gu:=by
  refine⟨h,?_,fun i j _=>Or.inl rfl,fun i e=>by simp[gu,Hd.blk]at e⟩;intro i
  match i with
  | 0=>exact World.ownsRow_nil _ _ _ _
  | 1=>exact World.ownsRow_nil _ _ _ _
  | 2=>exact World.ownsRow_nil _ _ _ _
  | 3=>exact World.ownsRow_nil _ _ _ _
  | 4=>exact World.ownsRow_nil _ _ _ _
  | 5=>exact World.ownsRow_nil _ _ _ _
  | 6=>exact World.ownsRow_nil _ _ _ _
  | 7=>exact World.ownsRow_nil _ _ _ _
  | 8=>exact World.ownsRow_nil _ _ _ _
  | 9=>exact World.ownsRow_nil _ _ _ _
  | n+10 =>
    have e:aF bh gu (n+10)=if n % 2=0 then am [] else dZ []:=by simp[aF,inner,bh,bS,mK]
    rw[e]
    split
    · exact World.ownsRow_nil _ _ _ _
    · exact World.ownsRow_nil _ _ _ _
theorem wR(b t o:Nat)(pre post:List Value)(d:Db)(H:Nat->Hd)(w:World)(h:aE w b t pre post d H)(ho:pre.length=o) :
    Calls Tryz.prog 92 #[.pointer (some ⟨b,o,none⟩)] w fun e w'=>e=.returned (.agg #[.slice (H 6).ao d.sts.length (H 6).cap,.slice (H 7).ao d.rbl.length (H 7).cap])/\aa [] w w':=by
  obtain⟨q0,q1,q2,q3,q4,q5,q6,q7,q8,q9,q10,q11,q12⟩:=h.cells o ho;clear q0 q1 q2 q3 q4 q5 q8 q9 q10 q11 q12;have hbw:=h.lt;go_enter Tryz.func92,Tryz.ntmps92;go_wp2;exact bodyPost_ret (v:=.agg #[.slice (H 6).ao d.sts.length (H 6).cap,.slice (H 7).ao d.rbl.length (H 7).cap]) (by simp[results,Tryz.results92,go_sem]) rfl ⟨rfl,(aa.refl _ _).alloc _⟩
theorem sI(fs:Fs)(hsz:∀j,j<fs.length->(aj fs j).size<=1024)(bg:List Bool):cI fs bg<=4104:=by
  have h:∀j,Dw fs bg j<=1026:=by
    intro j;unfold Dw
    split
    · omega
    · rcases Nat.lt_or_ge j fs.length with h | h
      · have:=hsz j h;omega
      · have:(aj fs j).size=0:=by unfold aj;rw[List.getD_eq_getElem?_getD,List.getElem?_eq_none h];rfl
        omega
  have h0:=h 0;have h1:=h 1;have h2:=h 2;have h3:=h 3;unfold cI;omega
theorem sE{S:List Nat}{a w:World}{A B:Nat}(h:aa S a w)(hA:A∈S∨a.heap.size<=A)(hB:B∈S∨a.heap.size<=B)(u0 u1 v0 v1 v2 v3:Value) :
    aa S a ((((((w.setCell ⟨A,0,none⟩ u0).setCell ⟨A,1,none⟩ u1).setCell ⟨B,0,none⟩ v0).setCell ⟨B,1,none⟩ v1).setCell ⟨B,2,none⟩ v2).setCell ⟨B,3,none⟩ v3) :=
  (((((h.setCell hA _).setCell hA _).setCell hB _).setCell hB _).setCell hB _).setCell hB _
def cy(fs:Fs)(root:Nat):Du:=bJ fs 5000 root yO bh
set_option maxRecDepth 100000 in
theorem CI(v tt k0:Nat)(fs:Fs)(more:List Value)(w:World)
    (ht:bz w v tt fs more) (hk0:k0<fs.length) (hsz:∀j,j<fs.length->(aj fs j).size<=1024) :
    Calls Tryz.prog 76 #[.pointer (some ⟨v,0,none⟩),.int .i64 k0] w fun e w' =>
      (if((cy fs k0).1.1==0)=true then ∃H,e=.returned (.tuple #[.agg #[.slice (H 6).ao (cy fs k0).2.2.sts.length (H 6).cap,.slice (H 7).ao (cy fs k0).2.2.rbl.length (H 7).cap],eM bT])/\eU w' (cy fs k0).2.2.sts H/\(∀k,cK H k->w.heap.size<=k)
       else e=.returned (.tuple #[.agg #[.slice none 0 0,.slice none 0 0],eM (cy fs k0).1]))/\aa [] w w':=by
  have hvw:=ht.lt
  obtain⟨W,hW⟩:∃W,W=((w.alloc (.cells #[.slice none 0 0,.slice none 0 0] 92)).alloc (.cells #[.int .i64 0,.string ⟨#[]⟩,.int .i64 0,.int .i64 0] 48)).alloc (.cells #[.pointer (some ⟨v,0,none⟩),.bool false,.bool false,.bool false,.bool false,
    .slice none 0 0,.slice none 0 0,.slice none 0 0,.slice none 0 0,.slice none 0 0,.slice none 0 0,.slice none 0 0,.slice none 0 0,.int .i64 0,.string ⟨#[]⟩,.slice none 0 0,.bool false,.slice none 0 0] 156):=⟨_,rfl⟩
  have hK:aa [] w W:=by rw[hW];exact(((aa.refl [] _).alloc _).alloc _).alloc _
  have hA:W.heap[w.heap.size]?=some (.cells #[.slice none 0 0,.slice none 0 0] 92 (0,0)):=by
    rw[hW];exact(((aa.refl [] _).alloc _).alloc _).get (heap_alloc_new _ _) (by simp)
  have hF:W.heap[w.heap.size+1]?=some (.cells aO 48 (0,0)):=by
    rw[hW];have e:(w.alloc (.cells #[.slice none 0 0,.slice none 0 0] 92)).heap.size=w.heap.size+1:=by simp
    rw[<-e];exact((aa.refl [] _).alloc _).get (heap_alloc_new _ _) (by simp)
  have hD:aE W (w.heap.size+2) 156 (cD v yO) [] bh gu:=by
    refine aE.begin ?_;rw[hW];have e:((w.alloc (.cells #[.slice none 0 0,.slice none 0 0] 92)).alloc (.cells #[.int .i64 0,.string ⟨#[]⟩,.int .i64 0,.int .i64 0] 48)).heap.size=w.heap.size+2:=by simp
    rw[<-e];exact heap_alloc_new _ _
  have hT:bz W v tt fs more:=ht.kept hK (by simp);have HW:=(show Hid _ from hW.symm);have RF:=sU (w.heap.size+2) v tt fs more hsz (by omega) 5000 k0 yO bh gu W 0 hk0 rfl iI.empty (by have:=sI fs hsz yO;omega) (by have:=sI fs hsz yO;omega) hD hT (nt _);unfold fG at RF;have HRF:=(show Hid _ from RF);clear hW RF;have HKN:Hid ((bJ fs 5000 k0 yO bh).2.1.length=4):=((BP fs 5000).2 k0 yO bh 0 rfl iI.empty).1;have ER:Hid (cy fs k0=bJ fs 5000 k0 yO bh):=rfl;rw[ER.out];clear ER;generalize bJ fs 5000 k0 yO bh=R at *;obtain⟨⟨r,pf,pl,pc⟩,bg',d'⟩:=R;simp only[eM]at HRF HKN ⊢;go_enter Tryz.func76,Tryz.ntmps76
  go_upto_region 2 with fail
  rw[HW.out];go_wp2_with fail;refine Calls.mono HRF.out ?_;rintro e w2 ⟨rfl,H2,D2,T2⟩;have hA2:=T2.1.get hA (by rintro (e | e);omega;exact nt _ e);have hF2:=T2.1.get hF (by rintro (e | e);omega;exact nt _ e);have hz2:=T2.1.size;have hWs:=D2.lt
  have HNI:Hid (∀k,cK H2 k->w.heap.size<=k):=fun k hk=>by
    rcases T2.2 k hk with h | h
    · exact absurd h (nt _)
    · have:=hK.size;omega
  have HN2:Hid (∀k,cK H2 k->k≠w.heap.size/\k≠w.heap.size+1/\k≠w.heap.size+2):=fun k hk=>by
    have hz:=ac hF;have hz3:=hD.lt
    rcases T2.2 k hk with h | h
    · exact absurd h (nt _)
    · omega
  have K2:Hid (aa [] w w2):=⟨T2.1.os.trans hK.os,T2.1.tape.trans hK.tape,T2.1.output.trans hK.output,Nat.le_trans hK.size T2.1.size,fun k hk _=>(T2.1.block k (Nat.lt_of_lt_of_le hk hK.size) (by rintro (e | e);omega;exact nt _ e)).trans (hK.block k hk (by simp))⟩;have a0:w2.cell? ⟨w.heap.size,0,none⟩=some (.slice none 0 0):=by rw[ab hA2];rfl
  have a1:w2.cell? ⟨w.heap.size,1,none⟩=some (.slice none 0 0):=by rw[ab hA2];rfl
  obtain⟨z0,z1,z2,z3⟩:=bt hF2;have ya:=an hA2;have yf:=an hF2;have hA2w:=ac hA2;have hF2w:=ac hF2
  cases hr:(r==0)
  · have hr':(r != 0)=true:=by simp[bne,hr]
    go_wp2_with fail
    go_region
    all_goals go_wp2
    all_goals exact bodyPost_ret (v:=.tuple #[.agg #[.slice none 0 0,.slice none 0 0],.agg #[.int .i64 r,.string pf,.int .i64 pl,.int .i64 pc]]) (by simp[results,Tryz.results76,go_sem,a0,a1,z0,z1,z2,z3,hA2w,hF2w]) rfl ⟨rfl,((sE K2.out (Or.inr (Nat.le_refl _)) (Or.inr (Nat.le_succ _)) _ _ _ _ _ _).alloc _).drew⟩
  · have hr':(r != 0)=false:=by simp[bne,hr]
    go_wp2_with fail;refine(wR (w.heap.size+2) 156 5 (cD v bg') [] d' H2 _ (by exact D2.still ((aa.refl [] _).alloc _)) (fj v bg' HKN.out)).mono ?_;rintro e w4 ⟨rfl,hk4⟩;have k24:aa [] w2 w4:=((aa.refl [] _).alloc _).trans hk4;have hA4:=k24.get hA2 (by simp);have hF4:=k24.get hF2 (by simp);have K4:Hid (aa [] w w4):=K2.out.trans k24;have S4:Hid (eU w4 d'.sts H2):=D2.record.still k24;clear a0 a1 z0 z1 z2 z3 ya yf hk4;have a0:w4.cell? ⟨w.heap.size,0,none⟩=some (.slice none 0 0):=by rw[ab hA4];rfl
    have a1:w4.cell? ⟨w.heap.size,1,none⟩=some (.slice none 0 0):=by rw[ab hA4];rfl
    obtain⟨z0,z1,z2,z3⟩:=bt hF4;have ya:=an hA4;have yf:=an hF4;go_wp2
    exact bodyPost_ret (v:=.tuple #[.agg #[.slice (H2 6).ao d'.sts.length (H2 6).cap,.slice (H2 7).ao d'.rbl.length (H2 7).cap],.agg #[.int .i64 0,.string ⟨#[]⟩,.int .i64 0,.int .i64 0]]) (by simp[results,Tryz.results76,go_sem,a0,a1,z0,z1,z2,z3]) rfl
      ⟨⟨H2,rfl,S4.out.kept (sE (aa.refl [w.heap.size,w.heap.size+1] w4) (Or.inl (by simp)) (Or.inl (by simp)) _ _ _ _ _ _) (fun k hk=>by have:=HN2.out k hk;simp;omega),HNI.out⟩,
        sE K4.out (Or.inr (Nat.le_refl _)) (Or.inr (Nat.le_succ _)) _ _ _ _ _ _⟩
structure bZ(w:World)(b o:Nat)(l:List St)(H:Nat->Hd):Prop where
 cell:∃arr t,w.heap[b]?=some (.cells arr t (0,0))/\arr[o]?=some (.slice (H 6).ao l.length (H 6).cap)
 sts:eU w l H
theorem bZ.at{w:World}{b o:Nat}{l:List St}{H:Nat->Hd}(h:bZ w b o l H):w.cell? ⟨b,o,none⟩=some (.slice (H 6).ao l.length (H 6).cap):=by
 obtain⟨arr,t,h1,h2⟩:=h.cell;rw[ab h1];exact h2
theorem bZ.lt{w:World}{b o:Nat}{l:List St}{H:Nat->Hd}(h:bZ w b o l H):b<w.heap.size:=by
 obtain⟨arr,t,h1,h2⟩:=h.cell;exact ac h1
theorem bZ.kept{w w':World}{b o:Nat}{l:List St}{H:Nat->Hd}{S:List Nat}(h:bZ w b o l H)(k:aa S w w')(hb:b∉S)(hP:∀x,cK H x->x∉S):bZ w' b o l H:=by
 obtain⟨arr,t,h1,h2⟩:=h.cell;exact⟨⟨arr,t,k.get h1 hb,h2⟩,h.sts.kept k hP⟩
theorem bZ.still{w w':World}{b o:Nat}{l:List St}{H:Nat->Hd}(h:bZ w b o l H)(k:aa [] w w'):bZ w' b o l H:=h.kept k (by simp) (by simp)
theorem eU.stmt{w:World}{l:List St}{H:Nat->Hd}(h:eU w l H)(n:Nat)(hn:n<l.length) :
  ∃g,(H 6).ao=some ⟨g,0,none⟩/\l.length<=(H 6).cap/\(H 6).cap<=9223372036854775807/\w.cell? ⟨g,n*8,none⟩=some (.int .i64 l[n].kind)/\w.cell? ⟨g,n*8+1,none⟩=some (.string l[n].label)/\w.cell? ⟨g,n*8+2,none⟩=some (.slice (H (10+2*n)).ao l[n].symbols.length (H (10+2*n)).cap) /\
  w.cell? ⟨g,n*8+3,none⟩=some (.slice (H (11+2*n)).ao l[n].proof.length (H (11+2*n)).cap)/\w.cell? ⟨g,n*8+4,none⟩=some (.string l[n].fin.file)/\w.cell? ⟨g,n*8+5,none⟩=some (.int .i64 l[n].fin.line) /\
  w.cell? ⟨g,n*8+6,none⟩=some (.int .i64 l[n].fin.col)/\w.cell? ⟨g,n*8+7,none⟩=some (.int .i64 l[n].til):=by
 rcases h.own.ways with ⟨_,h0,_⟩ | ⟨g,cur,e1,e2,e3,e4,-⟩
 ·have:l.length=0:=h0
  omega
 ·have c:=fun j (hj:j<8) v (hv:(Aq l[n] (H (10+2*n)) (H (11+2*n)))[j]?=some v)=>h.own.cell e1 (n*8+j) v ((yD l H n hn j hj).trans hv)
  exact⟨g,e1,e3,by unfold maxLen at e4;exact e4,c 0 (by omega) _ rfl,c 1 (by omega) _ rfl,c 2 (by omega) _ rfl,c 3 (by omega) _ rfl,c 4 (by omega) _ rfl,c 5 (by omega) _ rfl,c 6 (by omega) _ rfl,c 7 (by omega) _ rfl⟩
theorem cL(b o:Nat)(l:List St)(H:Nat->Hd)(w:World)(h:bZ w b o l H) :
  Calls Tryz.prog 77 #[.pointer (some ⟨b,o,none⟩)] w fun e w'=>e=.returned (.int .i64 l.length)/\w'=w:=by
 have c:=h.at;go_enter Tryz.func77,Tryz.ntmps77;go_wp2;go_ret;exact⟨rfl,rfl⟩
def cQ(s:St)(a b:Hd):Value :=
 .agg #[.int .i64 s.kind,.string s.label,.slice a.ao s.symbols.length a.cap,.slice b.ao s.proof.length b.cap,.string s.fin.file,.int .i64 s.fin.line,.int .i64 s.fin.col,.int .i64 s.til]
theorem aI(b o k:Nat)(l:List St)(H:Nat->Hd)(w:World)(h:bZ w b o l H)(hk:k<l.length) :
  Calls Tryz.prog 87 #[.pointer (some ⟨b,o,none⟩),.int .i64 k] w fun e w'=>e=.returned (cQ l[k] (H (10+2*k)) (H (11+2*k)))/\aa [] w w':=by
 have c:=h.at;have hbw:=h.lt;obtain⟨g,e1,e2,e3,c0,c1,c2,c3,c4,c5,c6,c7⟩:=h.sts.stmt k hk;have hgw:=h.sts.own.lt (k:=g) (by unfold Hd.blk;rw[e1];rfl);rw[e1]at c;unfold cQ;clear h;go_enter Tryz.func87,Tryz.ntmps87;go_wp2
 exact bodyPost_ret (v:=.agg #[.int .i64 l[k].kind,.string l[k].label,.slice (H (10+2*k)).ao l[k].symbols.length (H (10+2*k)).cap,.slice (H (11+2*k)).ao l[k].proof.length (H (11+2*k)).cap,.string l[k].fin.file,.int .i64 l[k].fin.line,.int .i64 l[k].fin.col,.int .i64 l[k].til])
  (by simp[results,Tryz.results87,go_sem]) rfl ⟨rfl,(aa.refl _ _).alloc _⟩
def b7(l:List St)(n a:Nat):Bool:=match l[n]? with | some s=>decide (n<a)&&(s.til==0||decide (a<s.til)) | none=>false
theorem Ee(l:List St)(n a:Nat)(h:n<l.length):b7 l n a=(decide (n<a)&&(l[n].til==0||decide (a<l[n].til))):=by
 unfold b7;rw[List.getElem?_eq_getElem h]
theorem dV(b o k a:Nat)(l:List St)(H:Nat->Hd)(w:World)(h:bZ w b o l H)(hk:k<l.length) :
  Calls Tryz.prog 125 #[.pointer (some ⟨b,o,none⟩),.int .i64 k,.int .i64 a] w fun e w'=>e=.returned (.bool (b7 l k a))/\w'=w:=by
 have c:=h.at;obtain⟨g,e1,e2,e3,c0,c1,c2,c3,c4,c5,c6,c7⟩:=h.sts.stmt k hk;clear c0 c1 c2 c3 c4 c5 c6;rw[e1]at c;have HE:=(show Hid _ from Ee l k a hk);generalize l[k].til=t at *;clear h
 by_cases h1:k<a
 ·cases h2:((t:Int)==0)
  ·have h2':(t==0)=false:=by cases t <;> simp at h2 ⊢
   have HT:Hid (b7 l k a=decide (a<t)):=by show _=_;rw[HE.out,h2'];simp[h1]
   clear HE;go_enter Tryz.func125,Tryz.ntmps125;go_wp2;go_ret;exact⟨GQ (by rw[HT.out]),rfl⟩
  ·have h2':(t==0)=true:=by cases t <;> simp at h2 ⊢ <;> omega
   have HT:Hid (b7 l k a=true):=by show _=_;rw[HE.out,h2'];simp[h1]
   clear HE;go_enter Tryz.func125,Tryz.ntmps125;go_wp2;go_ret;exact⟨GQ (by rw[HT.out]),rfl⟩
 ·have HT:Hid (b7 l k a=false):=by show _=_;rw[HE.out];simp[h1]
  clear HE;go_enter Tryz.func125,Tryz.ntmps125;go_wp2;go_ret;exact⟨GQ (by rw[HT.out]),rfl⟩
def ic(l:List St)(lab:ByteArray)(a n:Nat):Bool:=match l[n]? with | some s=>(s.label.toList==lab.toList) && !(s.kind==1)&&b7 l n a | none=>false
def ft(l:List St)(lab:ByteArray)(a:Nat):Option Nat:=(List.range l.length).find? (ic l lab a)
def bQ:Option Nat->Int
 | some n=>n
 | none=>-1
theorem Cn(l:List St)(lab:ByteArray)(a n:Nat)(h:n<l.length):ic l lab a n=((l[n].label.toList==lab.toList) && !(l[n].kind==1)&&b7 l n a):=by
 unfold ic;rw[List.getElem?_eq_getElem h]
theorem gK{p:Nat->Bool}{n k:Nat}(hk:k<n)(hp:p k=true)(hall:∀i,i<k->p i=false):(List.range n).find? p=some k :=
 List.find?_range_eq_some.2 ⟨hp,by simpa using hk,fun j hj=>by simp[hall j hj]⟩
theorem fQ{p:Nat->Bool}{n:Nat}(hall:∀i,i<n->p i=false):(List.range n).find? p=none :=
 List.find?_eq_none.2 (fun i hi=>by simp[hall i (by simpa using hi)])
theorem eE(b o a:Nat)(lab:ByteArray)(l:List St)(H:Nat->Hd)(w:World)(h:bZ w b o l H)(hl:l.length<=1073741824) :
  Calls Tryz.prog 136 #[.pointer (some ⟨b,o,none⟩),.string lab,.int .i64 a] w fun e w'=>e=.returned (.int .i64 (bQ (ft l lab a)))/\w'=w:=by
 have c:=h.at;go_enter Tryz.func136,Tryz.ntmps136;go_wp2
 go_loopg [7] l.length (fun g i wr=>∃k:Nat,k<=l.length/\g=l.length-k/\i=.int .i64 k/\Hid (∀i,i<k->ic l lab a i=false)/\wr=w)
 case atStart=>exact⟨0,by omega,by omega,rfl,fun i hi=>by omega,rfl⟩
 case round =>
  obtain⟨k,hk,hg,rfl,hall,rfl⟩:=hrel
  by_cases hlt:k<l.length
  ·obtain⟨g,e1,e2,e3,c0,c1,c2,c3,c4,c5,c6,c7⟩:=h.sts.stmt k hlt
   clear c2 c3 c4 c5 c6 c7;rw[e1]at c;have HN:=(show Hid _ from Cn l lab a k hlt);have HH:Hid (bZ wr b o l H):=h;generalize l[k].label=lb at *;generalize l[k].kind=kd at *
   have next:Hid (ic l lab a k=false->∀i,i<k+1->ic l lab a i=false):=by
    intro hf i hi
    by_cases e:i=k
    ·subst e;exact hf
    ·exact hall.out i (by omega)
   cases hb:(lb.toList==lab.toList)
   ·have HF:Hid (ic l lab a k=false):=by show _=_;rw[HN.out,hb];simp
    clear HN h;go_wp2
    go_roundg (l.length-(k+1))
    case measure=>omega
    case rel=>exact⟨k+1,by omega,rfl,by go_num,next.out HF.out,rfl⟩
   ·cases hd:(kd==1)
    ·have hd':(kd != 1)=true:=by simp[bne,hd]
     cases hh:b7 l k a
     ·have HF:Hid (ic l lab a k=false):=by show _=_;rw[HN.out,hh];simp
      clear HN h;go_wp2_with (go_at_call 125;refine(dV b o k a l H _ HH.out hlt).mono ?_;rintro e w1 ⟨rfl,rfl⟩)
      go_roundg (l.length-(k+1))
      case measure=>omega
      case rel=>exact⟨k+1,by omega,rfl,by go_num,next.out HF.out,rfl⟩
     ·have HF:Hid (ft l lab a=some k):=gK hlt (by rw[HN.out,hb,hd,hh];rfl) hall.out
      clear HN h;go_wp2_with (go_at_call 125;refine(dV b o k a l H _ HH.out hlt).mono ?_;rintro e w1 ⟨rfl,rfl⟩);go_ret;exact⟨ar (by rw[HF.out];rfl),rfl⟩
    ·have hd':(kd != 1)=false:=by simp[bne,hd]
     have HF:Hid (ic l lab a k=false):=by show _=_;rw[HN.out,hd];simp
     clear HN h;go_wp2
     go_roundg (l.length-(k+1))
     case measure=>omega
     case rel=>exact⟨k+1,by omega,rfl,by go_num,next.out HF.out,rfl⟩
  ·have HF:Hid (ft l lab a=none):=fQ (fun i hi=>hall.out i (by omega))
   clear h;go_wp2;go_ret;exact⟨ar (by rw[HF.out];rfl),rfl⟩
def bH(w:World)(h:Hd)(l:List ByteArray):Prop :=
 l=[]∨∃g off cur t,h.ao=some ⟨g,off,none⟩/\w.heap[g]?=some (.cells cur t (0,0))/\(∀j x,l[j]?=some x->cur[off+j]?=some (.string x))/\l.length<=h.cap/\h.cap<=9223372036854775807
theorem au.view{w:World}{h:Hd}{l:List ByteArray}(o:au w h (am l)):bH w h l:=by
 rcases o.ways with ⟨_,h0,_⟩ | ⟨g,cur,e1,e2,e3,e4,e5,e6⟩
 ·exact Or.inl (List.eq_nil_of_length_eq_zero h0)
 ·refine Or.inr ⟨g,0,cur,_,e1,e2,?_,e3,by unfold maxLen at e4;exact e4⟩
  intro j x hj;have hjl:j<l.length:=(List.getElem?_eq_some_iff.1 hj).1;have e6':cur.toList.take (l.length*1)=strs l:=e6;have:(strs l)[j]?=some (.string x):=by simp[strs,hj]
  rw[<-e6',List.getElem?_take]at this;rw[Nat.zero_add];simp at this;exact this.2
theorem bH.kept{w w':World}{h:Hd}{l:List ByteArray}{S:List Nat}(v:bH w h l)(k:aa S w w')(hS:∀x,h.blk=some x->x∉S):bH w' h l:=by
 rcases v with v | ⟨g,off,cur,t,e1,e2,e3⟩
 ·exact Or.inl v
 ·exact Or.inr ⟨g,off,cur,t,e1,k.get e2 (hS g (by unfold Hd.blk;rw[e1];rfl)),e3⟩
theorem bH.still{w w':World}{h:Hd}{l:List ByteArray}(v:bH w h l)(k:aa [] w w'):bH w' h l:=v.kept k (by simp)
theorem kV{a b:ByteArray}(h:a=b):Ending.returned (.string a)=.returned (.string b):=by rw[h]
theorem BD(hd:Hd)(l:List ByteArray)(x:ByteArray)(w:World)(hv:bH w hd l)(hl:l.length<=1073741824) :
  Calls Tryz.prog 148 #[.slice hd.ao l.length hd.cap,.string x] w fun e w'=>e=.returned (.bool (aZ l x))/\w'=w:=by
 obtain⟨ao,cap⟩:=hd
 rcases hv with rfl | ⟨g,off,cur,t,e1,e2,e3,e4,e5⟩
 ·clear hl
  go_enter Tryz.func148,Tryz.ntmps148;go_wp2;refine wp_loop_rounds 1 ?_;rw[rounds_succ];go_wp2;go_ret;exact⟨rfl,rfl⟩
 ·simp only at e1
  subst e1;go_enter Tryz.func148,Tryz.ntmps148;go_wp2
  go_loopg [5] l.length (fun g i wr=>∃k:Nat,k<=l.length/\g=l.length-k/\i=.int .i64 k/\Hid (aZ l x=aZ (l.drop k) x)/\wr=w)
  case atStart=>exact⟨0,by omega,by omega,rfl,rfl,rfl⟩
  case round =>
   obtain⟨k,hk,hg,rfl,hs,rfl⟩:=hrel
   by_cases hlt:k<l.length
   ·have c1:wr.cell? ⟨g,off+k,none⟩=some (.string l[k]):=(ab e2 (off+k)).trans (e3 k l[k] (List.getElem?_eq_getElem hlt))
    cases hb:((l[k]).toList==x.toList)
    ·have HM:Hid (aZ l x=aZ (l.drop (k+1)) x):=ud l x k hlt hs.out hb
     clear hs e3;go_wp2
     go_roundg (l.length-(k+1))
     case measure=>omega
     case rel=>exact⟨k+1,by omega,rfl,by go_num,HM,rfl⟩
    ·have HM:Hid (aZ l x=true):=x9 l x k hlt hs.out hb
     clear hs e3;go_wp2;go_ret;exact⟨GQ HM.out.symm,rfl⟩
   ·have HM:Hid (aZ l x=false):=uf l x k hlt hs.out
    clear hs e3;go_wp2;go_ret;exact⟨GQ HM.out.symm,rfl⟩
def aR(s:St):ByteArray:=s.symbols.getD 0 ⟨#[]⟩
def al(s:St):ByteArray:=if(s.kind==2)=true/\2<=s.symbols.length then s.symbols.getD 1 ⟨#[]⟩ else⟨#[]⟩
theorem jy(l:List ByteArray)(k:Nat)(h:k<l.length):l.getD k ⟨#[]⟩=l[k]:=by rw[List.getD_eq_getElem?_getD,List.getElem?_eq_getElem h];rfl
theorem tj(s:St)(ha hb:Hd)(w:World)(hv:bH w ha s.symbols)(hl:s.symbols.length<=1073741824) :
  Calls Tryz.prog 189 #[cQ s ha hb] w fun e w'=>e=.returned (.string (aR s))/\aa [] w w':=by
 unfold cQ;obtain⟨ao,cap⟩:=ha
 rcases hv with e0 | ⟨g,off,cur,t,e1,e2,e3,e4,e5⟩
 ·have HT:Hid (aR s=⟨#[]⟩):=by show _=_;unfold aR;rw[e0];rfl
  rw[e0];simp only[List.length_nil];clear hl e0;go_enter Tryz.func189,Tryz.ntmps189;go_wp2;go_ret;exact⟨kV HT.out.symm,(aa.refl _ _).alloc _⟩
 ·simp only at e1
  subst e1
  by_cases hz:s.symbols.length=0
  ·have hz1:((s.symbols.length:Int)==0)=true:=by simp[hz]
   have HT:Hid (aR s=⟨#[]⟩):=by show _=_;unfold aR;rw[List.eq_nil_of_length_eq_zero hz];rfl
   clear hz;go_enter Tryz.func189,Tryz.ntmps189;go_wp2;go_ret;exact⟨kV HT.out.symm,(aa.refl _ _).alloc _⟩
  ·have hz1:((s.symbols.length:Int)==0)=false:=beq_eq_false_iff_ne.2 (by omega)
   have hz2:0<s.symbols.length:=by omega
   have HT:Hid (aR s=s.symbols[0]):=jy _ _ hz2;have c1:w.cell? ⟨g,off,none⟩=some (.string s.symbols[0]):=(ab e2 off).trans (e3 0 _ (List.getElem?_eq_getElem hz2));have hgw:=ac e2;clear e3 hz;go_enter Tryz.func189,Tryz.ntmps189;go_wp2;go_ret;exact⟨kV HT.out.symm,(aa.refl _ _).alloc _⟩
theorem im(s:St)(ha hb:Hd)(w:World)(hv:bH w ha s.symbols)(hl:s.symbols.length<=1073741824) :
  Calls Tryz.prog 149 #[cQ s ha hb] w fun e w'=>e=.returned (.string (al s))/\aa [] w w':=by
 unfold cQ
 cases k2:(s.kind==2)
 ·have k2':(s.kind != 2)=true:=by simp[bne,k2]
  have HT:Hid (al s=⟨#[]⟩):=by show _=_;unfold al;rw[k2];simp
  go_enter Tryz.func149,Tryz.ntmps149;go_wp2;go_ret;exact⟨kV HT.out.symm,(aa.refl _ _).alloc _⟩
 ·have k2':(s.kind != 2)=false:=by simp[bne,k2]
  by_cases hz:s.symbols.length<2
  ·have HT:Hid (al s=⟨#[]⟩):=by show _=_;unfold al;rw[if_neg (by omega)]
   go_enter Tryz.func149,Tryz.ntmps149;go_wp2;go_ret;exact⟨kV HT.out.symm,(aa.refl _ _).alloc _⟩
  ·have hz2:1<s.symbols.length:=by omega
   obtain⟨ao,cap⟩:=ha
   rcases hv with e0 | ⟨g,off,cur,t,e1,e2,e3,e4,e5⟩
   ·rw[e0]at hz2;simp at hz2
   ·simp only at e1
    subst e1;have HT:Hid (al s=s.symbols[1]):=by show _=_;unfold al;rw[if_pos ⟨k2,by omega⟩];exact jy _ _ hz2
    have c1:w.cell? ⟨g,off+1,none⟩=some (.string s.symbols[1]):=(ab e2 (off+1)).trans (e3 1 _ (List.getElem?_eq_getElem hz2));have hgw:=ac e2;clear e3;go_enter Tryz.func149,Tryz.ntmps149;go_wp2;go_ret;exact⟨kV HT.out.symm,(aa.refl _ _).alloc _⟩
def jR(s:St)(syms:List ByteArray):Bool:=if(s.kind==2)=true then aZ syms (al s) else(s.kind==3)
theorem og(s:St)(ha hb hd:Hd)(l:List ByteArray)(w:World)(hv:bH w ha s.symbols)(hvl:bH w hd l)(hl:s.symbols.length<=1073741824)(hl2:l.length<=1073741824) :
  Calls Tryz.prog 126 #[cQ s ha hb,.slice hd.ao l.length hd.cap] w fun e w'=>e=.returned (.bool (jR s l))/\aa [] w w':=by
 have VA:=fun(w':World) (hv':bH w' ha s.symbols)=>im s ha hb w' hv' hl
 have HVA:=(show Hid _ from VA);unfold cQ at HVA ⊢;clear VA
 cases k2:(s.kind==2)
 ·have HT:Hid (jR s l=(s.kind==3)):=by show _=_;unfold jR;rw[k2];simp
  go_enter Tryz.func126,Tryz.ntmps126;go_wp2;go_ret;exact⟨GQ (by rw[HT.out]),(aa.refl _ _).alloc _⟩
 ·have HT:Hid (jR s l=aZ l (al s)):=by show _=_;unfold jR;rw[k2];simp
  go_enter Tryz.func126,Tryz.ntmps126;go_wp2_with fail;refine(HVA.out _ (by exact hv.still ((aa.refl [] _).alloc _))).mono ?_;rintro e w2 ⟨rfl,hk2⟩;have hk:=((aa.refl [] w).alloc _).trans hk2;go_wp2_with fail;refine(BD hd l _ _ (by exact hvl.still hk) hl2).mono ?_;rintro e w3 ⟨rfl,rfl⟩;go_wp2;go_ret;exact⟨GQ (by rw[HT.out]),hk⟩
end Go.Proofs.YtlbhbocbakijbaaGreat

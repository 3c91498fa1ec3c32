import Derived.BigQuiet
import Derived.Test.YtpddjjabfbfifaaGreatG11
namespace Go.Proofs.YtpddjjabfbfifaaGreat
open Go.RowKit
set_option maxHeartbeats 40000000
def iI(b v:Nat)(fs:Fs)(f j:Nat)(bg:List Bool)(d:Db)(H:Nat->Hd)(w:World):Prop :=
 Calls Tryz.prog 111 #[.pointer (some ⟨b,0,none⟩),.int .i64 j] w fun e w'=>e=.returned (gx (bZ fs f j bg d).1)/\∃H',aN w' b 200 (dq v (bZ fs f j bg d).2.1) [] (bZ fs f j bg d).2.2 H'/\aw b w H w' H'
theorem jd{w w2:World}{b t sp F:Nat}{pre post:List Value}{d:Db}{H H2:Nat->Hd}(D:aN w2 b t pre post d H2)(T:eQ b sp w H w2 H2)(h1:w.heap.size<=F)(h2:b≠F)(h3:¬fk H2 F)(a0 a1 a2 a3:Value) :
  aN ((((w2.setCell ⟨F,0,none⟩ a0).setCell ⟨F,1,none⟩ a1).setCell ⟨F,2,none⟩ a2).setCell ⟨F,3,none⟩ a3) b t pre post d H2 /\
  eQ b sp w H ((((w2.setCell ⟨F,0,none⟩ a0).setCell ⟨F,1,none⟩ a1).setCell ⟨F,2,none⟩ a2).setCell ⟨F,3,none⟩ a3) H2 :=
 ⟨D.kept (ie _ _ _ _) (by simpa using h2) (fun x hx=>by simp;rintro rfl;exact h3 hx),T.beyond (ie _ _ _ _) (by simpa using h1)⟩
theorem oG(n s:ByteArray)(t:ByteArray)(u:Int)(f:Bool)(p:Nat):gx (gF n s ⟨t,u,f,p⟩)=.agg #[.int .i64 (if f=true then 7 else u),.string n,.int .i64 (aL s p),.int .i64 (aW s p)]:=rfl
structure pP(w w':World)(b v tt sp z:Nat)(fs:Fs)(more:List Value)(bg:List Bool)(d:Db)(H:Nat->Hd)(n s:ByteArray):Prop where
 D:aN w' b 200 (dq v bg) [] d H
 TB:bm w' v tt fs more
 SC:bN w' sp n s z
 F:w'.heap[w.heap.size+1]?=some (.cells aZ 87 (0,0))
 M:eQ b sp w H w' H
theorem pP.still{w w1 w2:World}{b v tt sp z:Nat}{fs:Fs}{more:List Value}{bg:List Bool}{d:Db}{H:Nat->Hd}{n s:ByteArray}(S:pP w w1 b v tt sp z fs more bg d H n s)(k:ab [] w1 w2):pP w w2 b v tt sp z fs more bg d H n s :=
 ⟨S.D.still k,S.TB.kept k (by simp),S.SC.kept k (by simp),k.get S.F (by simp),S.M.still k⟩
theorem pP.next{w w1 w2:World}{b v tt sp z z':Nat}{fs:Fs}{more:List Value}{bg:List Bool}{d:Db}{H:Nat->Hd}{n s:ByteArray}(S:pP w w1 b v tt sp z fs more bg d H n s)(k:ab [sp] w1 w2)(SC:bN w2 sp n s z')
  (h1:sp≠b) (h2:v≠sp) (h3:¬fk H sp) (h4:sp<w.heap.size):pP w w2 b v tt sp z' fs more bg d H n s :=
 ⟨S.D.kept k (by simpa using fun e=>h1 e.symm) (by intro x hx;simp;rintro rfl;exact h3 hx),S.TB.kept k (by simpa using h2),SC,k.get S.F (by simp;omega),S.M.scan k⟩
set_option maxRecDepth 100000 in
theorem zv(b v tt sp f x z:Nat)(fs:Fs)(more:List Value)(bg:List Bool)(hbg:bg.length=4)(d:Db)(H:Nat->Hd)(n s:ByteArray)(l c:Int)(w:World)
  (h:aN w b 200 (dq v bg) [] d H) (hn:aC fs x=n) (hsd:aj fs x=s) (hs:s.size<=1024) (hz:z<=s.size) (hsc:bN w sp n s z) (ht:bm w v tt fs more)
  (hspb:sp≠b) (hvs:v≠sp) (hsi:¬fk H sp)
  (RF:Hid (∀(j:Nat) (w':World),j<fs.length->aN w' b 200 (dq v bg) [] d H->bm w' v tt fs more->iI b v fs f j bg d H w')) :
  Calls Tryz.prog 205 #[.pointer (some ⟨b,0,none⟩),.pointer (some ⟨sp,0,none⟩),.agg #[.string n,.int .i64 l,.int .i64 c]] w fun e w' =>
   e=.returned (gx (lC (bZ fs f) fs x z ⟨n,l,c⟩ bg d).1.1)/\∃H',aN w' b 200 (dq v (lC (bZ fs f) fs x z ⟨n,l,c⟩ bg d).1.2.1) [] (lC (bZ fs f) fs x z ⟨n,l,c⟩ bg d).1.2.2 H'/\eQ b sp w H w' H' /\
    (((lC (bZ fs f) fs x z ⟨n,l,c⟩ bg d).1.1.1==0)=true->bN w' sp n s (lC (bZ fs f) fs x z ⟨n,l,c⟩ bg d).2):=by
 obtain⟨W,hW⟩:∃W,W=((w.alloc (.cells #[.string n,.int .i64 l,.int .i64 c] 36)).alloc (.cells #[.int .i64 0,.string ⟨#[]⟩,.int .i64 0,.int .i64 0] 87)):=⟨_,rfl⟩
 have hK:ab [] w W:=by rw[hW];exact((ab.refl [] w).alloc _).alloc _
 have hbw:=h.lt;have hspw:=ae hsc;have hvw:=ht.lt;have D:aN W b 200 (dq v bg) [] d H:=h.still hK;have SC:bN W sp n s z:=hsc.kept hK (by simp);have TB:bm W v tt fs more:=ht.kept hK (by simp)
 have hP:W.heap[w.heap.size]?=some (.cells #[.string n,.int .i64 l,.int .i64 c] 36 (0,0)):=by
  rw[hW];exact((ab.refl [] _).alloc _).get (heap_alloc_new _ _) (by simp)
 have hF:W.heap[w.heap.size+1]?=some (.cells aZ 87 (0,0)):=by
  rw[hW];have:=heap_alloc_new (w.alloc (.cells #[.string n,.int .i64 l,.int .i64 c] 36)) (.cells #[.int .i64 0,.string ⟨#[]⟩,.int .i64 0,.int .i64 0] 87);simpa [aZ] using this
 have HNI:Hid (∀k,w.heap.size<=k->¬fk H k):=fun k hk hm=>by have:=h.inlt hm;omega
 have HW:=(show Hid _ from hW.symm);have hW2:=ae hF;have MK:Hid (eQ b sp w H W H):=(eQ.refl b sp w H).still hK;clear hW h hsc ht;have HI:Hid (lC (bZ fs f) fs x z ⟨n,l,c⟩ bg d=match pq fs x z ⟨n,l,c⟩ d with | .inl q=>((q,bg,d),z) | .inr (j,z')=>(bZ fs f j bg d,z')):=rfl;have HJ:Hid (pq fs x z ⟨n,l,c⟩ d=_):=(show pq fs x z ⟨n,l,c⟩ d=_ from by unfold pq;rw[hn,hsd])
 cases ho:jb d
 ·have nl1:=eM s z hz
  have tx1:=pD s z hs;have nl2:=eM s (av s z).2 nl1.2.1;have hfl:=nQ (av s z).1.text fs;generalize hr1:av s z=r1 at *;obtain⟨⟨t1,u1,f1,p1⟩,z1⟩:=r1;simp only at nl1 tx1 nl2 hfl HJ;have tx2:=pD s z1 hs;generalize hr2:av s z1=r2 at *;obtain⟨⟨t2,u2,f2,p2⟩,z2⟩:=r2;simp only at nl2 tx2 HJ;rw[ho]at HJ;have S0:pP w W b v tt sp z fs more bg d H n s:=⟨D,TB,SC,hF,MK.out⟩;go_enter Tryz.func205,Tryz.ntmps205
  go_upto_region 1 with fail
  rw[HW.out];go_wp2_with fail;refine(pX b 200 5 (dq v bg) [] d H _ D (il v bg hbg)).mono ?_;rintro e w1 ⟨rfl,hw1⟩;subst hw1;rw[ho];go_wp2_with fail;refine(pN sp z n s _ hs hz SC).mono ?_;rintro e w2 ⟨rfl,SC2,hk2⟩;rw[hr1]at SC2 ⊢;simp only[eu]at SC2 ⊢;have S2:=S0.next hk2 SC2 hspb hvs hsi hspw;obtain⟨W3,hW3⟩:∃W3,W3=w2.alloc (.cells #[.string t1,.int .i64 u1,.bool f1,.string n,.int .i64 (aL s p1),.int .i64 (aW s p1)] 255):=⟨_,rfl⟩
  have HW3:=(show Hid _ from hW3.symm);have S3:pP w W3 b v tt sp z1 fs more bg d H n s:=by rw[hW3];exact S2.still ((ab.refl [] _).alloc _)
  have I3:iq W3 w2.heap.size n s ⟨t1,u1,f1,p1⟩:=by rw[hW3];exact heap_alloc_new _ _
  clear hW3 S0 S2 SC2 hk2 D TB SC hP hF hK HW hr1
  go_upto_region 4 with fail
  rw[HW3.out];clear HW3;obtain⟨a0,a1,a2,a3,a4,a5⟩:=I3.cells;go_wp2_with fail;refine(cr t1 n u1 (aL s p1) (aW s p1) f1 _).mono ?_;rintro e w4 ⟨rfl,hk4⟩;have S4:=S3.still hk4;have I4:=I3.kept hk4 (by simp);clear a0 a1 a2 a3 a4 a5 S3 I3 hk4;obtain⟨a0,a1,a2,a3,a4,a5⟩:=I4.cells;have hb2:=ae I4;have hF4w:=ae S4.F
  cases hw1:(u1==0 && !f1)
  ·have HT:Hid (lC (bZ fs f) fs x z ⟨n,l,c⟩ bg d=((gF n s ⟨t1,u1,f1,p1⟩,bg,d),z)):=by
    show _=_;rw[HI.out,HJ.out];simp[aG,hw1]
   clear HI HJ;go_wp2_with fail;refine(lH t1 n u1 (aL s p1) (aW s p1) f1 _).mono ?_;rintro e w5 ⟨rfl,hk5⟩;obtain⟨q,hq⟩:∃q:Int,Hid ((if f1=true then(7:Int) else u1)=q):=⟨_,rfl⟩
   rw[hq.out];have S5:=S4.still hk5;obtain⟨j0,j1,j2,j3⟩:=bR S5.F;have y:=ak S5.F;have HA':=(show Hid _ from fun a0 a1 a2 a3=>jd S5.D S5.M (F:=w.heap.size+1) (by omega) (by omega) (HNI.out _ (by omega)) a0 a1 a2 a3);clear a0 a1 a2 a3 a4 a5;go_wp2
   exact bodyPost_ret (v:=.agg #[.int .i64 q,.string n,.int .i64 (aL s p1),.int .i64 (aW s p1)]) (by simp[results,Tryz.results205,go_sem,j0,j1,j2,j3]) rfl
    ⟨by rw[HT.out,oG,hq.out],H,by rw[HT.out];exact(HA'.out _ _ _ _).1,(HA'.out _ _ _ _).2,by
     rw[HT.out];intro hh
     exfalso
     simp only[gF]at hh
     cases f1
     ·simp at hw1 hh;exact hw1 hh
     ·simp at hh⟩
  ·have hu1:u1=0:=by simp at hw1;exact hw1.1
   have hf1:f1=false:=by simp at hw1;exact hw1.2
   subst hu1 hf1
   cases hd1:dw t1
   ·have b0:w4.cell? ⟨b,0,none⟩=some (.pointer (some ⟨v,0,none⟩)):=S4.D.preCell 0 (by simp[dq])
    rcases hfl with hneg | ⟨j,hj,hjf⟩
    ·have HT:Hid (lC (bZ fs f) fs x z ⟨n,l,c⟩ bg d=(((6,jB n s p1),bg,d),z)):=by
      show _=_;rw[HI.out,HJ.out];simp[aG,hd1,hneg]
     clear HI HJ
     go_upto_region 8 with (go_at_call 231;refine(dH t1 _ (by omega)).mono ?_;rintro e w5 ⟨rfl,rfl⟩)
     go_quiet ((go_at_call 50;exact Calls.quiet_of_same (ku v tt fs more t1 _ (S4.still ((ab.refl [] _).drewN _)).TB)))
     have S5:=S4.still ((ab.refl [] _).drewN nq);rw[hneg];obtain⟨j0,j1,j2,j3⟩:=bR S4.F;have y:=ak S4.F;have HA':=(show Hid _ from fun a0 a1 a2 a3=>jd S5.D S5.M (F:=w.heap.size+1) (by omega) (by omega) (HNI.out _ (by omega)) a0 a1 a2 a3);go_wp2
     exact bodyPost_ret (v:=.agg #[.int .i64 6,.string n,.int .i64 (aL s p1),.int .i64 (aW s p1)]) (by simp[results,Tryz.results205,go_sem,j0,j1,j2,j3]) rfl
      ⟨by rw[HT.out];rfl,H,by rw[HT.out];exact(HA'.out _ _ _ _).1,(HA'.out _ _ _ _).2,by rw[HT.out];intro hh;cases hh⟩
    ·go_upto_region 8 with (go_at_call 231;refine(dH t1 _ (by omega)).mono ?_;rintro e w5 ⟨rfl,rfl⟩)
     go_quiet ((go_at_call 50;exact Calls.quiet_of_same (ku v tt fs more t1 _ (S4.still ((ab.refl [] _).drewN _)).TB)))
     rw[hjf];have S5:=S4.still ((ab.refl [] _).drewN nq);go_wp2_with fail;refine(pN sp z1 n s _ hs nl1.2.1 S5.SC).mono ?_;rintro e w6 ⟨rfl,SC6,hk6⟩;rw[hr2]at SC6 ⊢;simp only[eu]at SC6 ⊢;have S6:=S5.next hk6 SC6 hspb hvs hsi hspw;obtain⟨W7,hW7⟩:∃W7,W7=w6.alloc (.cells #[.string t2,.int .i64 u2,.bool f2,.string n,.int .i64 (aL s p2),.int .i64 (aW s p2)] 255):=⟨_,rfl⟩
     have HW7:=(show Hid _ from hW7.symm);have S7:pP w W7 b v tt sp z2 fs more bg d H n s:=by rw[hW7];exact S6.still ((ab.refl [] _).alloc _)
     have I7:iq W7 w6.heap.size n s ⟨t2,u2,f2,p2⟩:=by rw[hW7];exact heap_alloc_new _ _
     clear hW7 S4 S5 S6 SC6 hk6 I4 a0 a1 a2 a3 a4 a5 b0
     go_upto_region 12 with fail
     rw[HW7.out];clear HW7;obtain⟨a0,a1,a2,a3,a4,a5⟩:=I7.cells;go_wp2_with fail;refine(cr t2 n u2 (aL s p2) (aW s p2) f2 _).mono ?_;rintro e w8 ⟨rfl,hk8⟩;have S8:=S7.still hk8;have I8:=I7.kept hk8 (by simp);clear a0 a1 a2 a3 a4 a5 S7 I7 hk8;obtain⟨a0,a1,a2,a3,a4,a5⟩:=I8.cells;have hb8:=ae I8;have hF8w:=ae S8.F;have hjn:¬((j:Int)<0):=by omega
     cases hw2:(u2==0 && !f2)
     ·have HT:Hid (lC (bZ fs f) fs x z ⟨n,l,c⟩ bg d=((gF n s ⟨t2,u2,f2,p2⟩,bg,d),z)):=by
       show _=_;rw[HI.out,HJ.out,hjf];simp[aG,hd1,hw2,hjn]
      clear HI HJ;go_wp2_with fail;refine(lH t2 n u2 (aL s p2) (aW s p2) f2 _).mono ?_;rintro e w9 ⟨rfl,hk9⟩;obtain⟨q,hq⟩:∃q:Int,Hid ((if f2=true then(7:Int) else u2)=q):=⟨_,rfl⟩
      rw[hq.out];have S9:=S8.still hk9;obtain⟨j0,j1,j2,j3⟩:=bR S9.F;have y:=ak S9.F;have HA':=(show Hid _ from fun a0 a1 a2 a3=>jd S9.D S9.M (F:=w.heap.size+1) (by omega) (by omega) (HNI.out _ (by omega)) a0 a1 a2 a3);clear a0 a1 a2 a3 a4 a5;go_wp2
      exact bodyPost_ret (v:=.agg #[.int .i64 q,.string n,.int .i64 (aL s p2),.int .i64 (aW s p2)]) (by simp[results,Tryz.results205,go_sem,j0,j1,j2,j3]) rfl
       ⟨by rw[HT.out,oG,hq.out],H,by rw[HT.out];exact(HA'.out _ _ _ _).1,(HA'.out _ _ _ _).2,by
        rw[HT.out];intro hh
        exfalso
        simp only[gF]at hh
        cases f2
        ·simp at hw2 hh;exact hw2 hh
        ·simp at hh⟩
     ·have hu2:u2=0:=by simp at hw2;exact hw2.1
      have hf2:f2=false:=by simp at hw2;exact hw2.2
      subst hu2 hf2
      cases he2:(t2.toList == [36,93])
      ·have HT:Hid (lC (bZ fs f) fs x z ⟨n,l,c⟩ bg d=(((5,jB n s p2),bg,d),z)):=by
        show _=_;rw[HI.out,HJ.out,hjf];simp[aG,hd1,he2,hjn]
       clear HI HJ;obtain⟨j0,j1,j2,j3⟩:=bR S8.F;have y:=ak S8.F;have HA':=(show Hid _ from fun a0 a1 a2 a3=>jd S8.D S8.M (F:=w.heap.size+1) (by omega) (by omega) (HNI.out _ (by omega)) a0 a1 a2 a3);go_wp2
       exact bodyPost_ret (v:=.agg #[.int .i64 5,.string n,.int .i64 (aL s p2),.int .i64 (aW s p2)]) (by simp[results,Tryz.results205,go_sem,j0,j1,j2,j3]) rfl
        ⟨by rw[HT.out];rfl,H,by rw[HT.out];exact(HA'.out _ _ _ _).1,(HA'.out _ _ _ _).2,by rw[HT.out];intro hh;cases hh⟩
      ·have HT:Hid (lC (bZ fs f) fs x z ⟨n,l,c⟩ bg d=(bZ fs f j bg d,z2)):=by
        show _=_;rw[HI.out,HJ.out,hjf];simp[aG,hd1,he2,hjn]
       clear HI HJ;have RJ:=RF.out j w8 hj S8.D S8.TB;unfold iI at RJ;have HRJ:=(show Hid _ from RJ);clear RJ RF;generalize bZ fs f j bg d=R at *;obtain⟨⟨r,pf,pl,pc⟩,bg',d'⟩:=R;simp only[gx]at HRJ;go_wp2_with fail;refine Calls.mono HRJ.out ?_;rintro e w9 ⟨rfl,H9,D9,T9⟩;have F9:=T9.1.get S8.F (by rintro (e | e);omega;exact HNI.out _ (by omega) e);have SC9:bN w9 sp n s z2:=T9.1.get S8.SC (by rintro (e | e);exact hspb e;exact hsi e);obtain⟨j0,j1,j2,j3⟩:=bR F9;have y:=ak F9;have HA':=(show Hid _ from fun a0 a1 a2 a3=>jd D9 (S8.M.trans (T9.moved sp)) (F:=w.heap.size+1) (by omega) (by omega) (T9.fresh _ hF8w (HNI.out _ (by omega))) a0 a1 a2 a3);have HSC:=(show Hid _ from fun a0 a1 a2 a3=>SC9.kept (ie (r:=w.heap.size+1) a0 a1 a2 a3) (by simp;omega));clear a0 a1 a2 a3 a4 a5;go_wp2
       exact bodyPost_ret (v:=.agg #[.int .i64 r,.string pf,.int .i64 pl,.int .i64 pc]) (by simp[results,Tryz.results205,go_sem,j0,j1,j2,j3]) rfl
        ⟨by rw[HT.out];rfl,H9,by rw[HT.out];exact(HA'.out _ _ _ _).1,(HA'.out _ _ _ _).2,by rw[HT.out];exact fun _=>HSC.out _ _ _ _⟩
   ·have HT:Hid (lC (bZ fs f) fs x z ⟨n,l,c⟩ bg d=(((5,jB n s p1),bg,d),z)):=by
     show _=_;rw[HI.out,HJ.out];simp[aG,hd1]
    clear HI HJ;obtain⟨j0,j1,j2,j3⟩:=bR S4.F;have y:=ak S4.F;have HA':=(show Hid _ from fun a0 a1 a2 a3=>jd S4.D S4.M (F:=w.heap.size+1) (by omega) (by omega) (HNI.out _ (by omega)) a0 a1 a2 a3);go_wp2_with (go_at_call 231;refine(dH t1 _ (by omega)).mono ?_;rintro e w5 ⟨rfl,rfl⟩)
    exact bodyPost_ret (v:=.agg #[.int .i64 5,.string n,.int .i64 (aL s p1),.int .i64 (aW s p1)]) (by simp[results,Tryz.results205,go_sem,j0,j1,j2,j3]) rfl
     ⟨by rw[HT.out];rfl,H,by rw[HT.out];exact(HA'.out _ _ _ _).1,(HA'.out _ _ _ _).2,by rw[HT.out];intro hh;cases hh⟩
 ·have HT:Hid (lC (bZ fs f) fs x z ⟨n,l,c⟩ bg d=(((4,⟨n,l,c⟩),bg,d),z)):=by
   show _=_;rw[HI.out,HJ.out,ho];simp
  clear HI HJ;have i0:W.cell? ⟨w.heap.size,0,none⟩=some (.string n):=by rw[aa hP];rfl
  have i1:W.cell? ⟨w.heap.size,1,none⟩=some (.int .i64 l):=by rw[aa hP];rfl
  have i2:W.cell? ⟨w.heap.size,2,none⟩=some (.int .i64 c):=by rw[aa hP];rfl
  obtain⟨j0,j1,j2,j3⟩:=bR hF;have y:=ak hF;have HA':=(show Hid _ from fun a0 a1 a2 a3=>jd D MK.out (F:=w.heap.size+1) (by omega) (by omega) (HNI.out _ (by omega)) a0 a1 a2 a3);go_enter Tryz.func205,Tryz.ntmps205
  go_upto_region 1 with fail
  rw[HW.out];go_wp2_with fail;refine(pX b 200 5 (dq v bg) [] d H _ D (il v bg hbg)).mono ?_;rintro e w1 ⟨rfl,hw1⟩;subst hw1;rw[ho];go_wp2
  exact bodyPost_ret (v:=.agg #[.int .i64 4,.string n,.int .i64 l,.int .i64 c]) (by simp[results,Tryz.results205,go_sem,j0,j1,j2,j3]) rfl
   ⟨by rw[HT.out];rfl,H,by rw[HT.out];exact(HA'.out _ _ _ _).1,(HA'.out _ _ _ _).2,by rw[HT.out];intro hh;cases hh⟩
set_option maxRecDepth 100000 in
theorem xH(b v tt sp f x z:Nat)(fs:Fs)(more:List Value)(bg:List Bool)(hbg:bg.length=4)(d:Db)(H:Nat->Hd)(n s t:ByteArray)(l c:Int)(w:World)
  (h:aN w b 200 (dq v bg) [] d H) (hn:aC fs x=n) (hsd:aj fs x=s) (hs:s.size<=1024) (hz:z<=s.size) (hsc:bN w sp n s z) (ht:bm w v tt fs more)
  (hspb:sp≠b) (hvs:v≠sp) (hsi:¬fk H sp) (hsm:eS d 10000000) (htx:t.size<=1073741824) (hin:yF d 100000000)
  (RF:Hid (∀(j:Nat) (w':World),j<fs.length->aN w' b 200 (dq v bg) [] d H->bm w' v tt fs more->iI b v fs f j bg d H w')) :
  Calls Tryz.prog 157 #[.pointer (some ⟨b,0,none⟩),.pointer (some ⟨sp,0,none⟩),.agg #[.string t,.int .i64 0,.bool false,.string n,.int .i64 l,.int .i64 c]] w fun e w' =>
   e=.returned (gx (iG (bZ fs f) fs x z t ⟨n,l,c⟩ bg d).1.1)/\∃H',aN w' b 200 (dq v (iG (bZ fs f) fs x z t ⟨n,l,c⟩ bg d).1.2.1) [] (iG (bZ fs f) fs x z t ⟨n,l,c⟩ bg d).1.2.2 H'/\eQ b sp w H w' H' /\
    (((iG (bZ fs f) fs x z t ⟨n,l,c⟩ bg d).1.1.1==0)=true->bN w' sp n s (iG (bZ fs f) fs x z t ⟨n,l,c⟩ bg d).2):=by
 cases hi:(t.toList == [36,91])
 ·have HT:iG (bZ fs f) fs x z t ⟨n,l,c⟩ bg d=((if((aV d t ⟨n,l,c⟩).1==0)=true then cI else((aV d t ⟨n,l,c⟩).1,⟨n,l,c⟩),bg,(aV d t ⟨n,l,c⟩).2),z):=by
   unfold iG;rw[hi];simp
  rw[HT];refine(qZ b 200 v bg hbg d H _ t n l c w h hsm htx hin hi).mono ?_;rintro e w' ⟨rfl,H',D',T'⟩;exact⟨rfl,H',D',T'.moved sp,fun _=>T'.1.get hsc (by rintro (e | e);exact hspb e;exact hsi e)⟩
 ·have HT:iG (bZ fs f) fs x z t ⟨n,l,c⟩ bg d=lC (bZ fs f) fs x z ⟨n,l,c⟩ bg d:=by
   unfold iG;rw[hi];simp
  rw[HT];obtain⟨W,hW⟩:∃W,W=((w.alloc (.cells #[.string t,.int .i64 0,.bool false,.string n,.int .i64 l,.int .i64 c] 255)).alloc (.cells #[.int .i64 0,.string ⟨#[]⟩,.int .i64 0,.int .i64 0] 87)):=⟨_,rfl⟩
  have hK:ab [] w W:=by rw[hW];exact((ab.refl [] w).alloc _).alloc _
  have hbw:=h.lt;have hspw:=ae hsc
  have hI:W.heap[w.heap.size]?=some (.cells #[.string t,.int .i64 0,.bool false,.string n,.int .i64 l,.int .i64 c] 255 (0,0)):=by
   rw[hW];exact((ab.refl [] _).alloc _).get (heap_alloc_new _ _) (by simp)
  have hF:W.heap[w.heap.size+1]?=some (.cells aZ 87 (0,0)):=by
   rw[hW];have:=heap_alloc_new (w.alloc (.cells #[.string t,.int .i64 0,.bool false,.string n,.int .i64 l,.int .i64 c] 255)) (.cells #[.int .i64 0,.string ⟨#[]⟩,.int .i64 0,.int .i64 0] 87);simpa [aZ] using this
  have i0:W.cell? ⟨w.heap.size,0,none⟩=some (.string t):=by rw[aa hI];rfl
  have i3:W.cell? ⟨w.heap.size,3,none⟩=some (.string n):=by rw[aa hI];rfl
  have i4:W.cell? ⟨w.heap.size,4,none⟩=some (.int .i64 l):=by rw[aa hI];rfl
  have i5:W.cell? ⟨w.heap.size,5,none⟩=some (.int .i64 c):=by rw[aa hI];rfl
  have IC:=zv b v tt sp f x z fs more bg hbg d H n s l c W (h.still hK) hn hsd hs hz (hsc.kept hK (by simp)) (ht.kept hK (by simp)) hspb hvs hsi RF;have HIC:=(show Hid _ from IC);have HNI:Hid (∀k,w.heap.size<=k->¬fk H k):=fun k hk hm=>by have:=h.inlt hm;omega
  have HW:=(show Hid _ from hW.symm);have hFw:=ae hF;clear hW IC RF HT h;generalize lC (bZ fs f) fs x z ⟨n,l,c⟩ bg d=R at *;obtain⟨⟨⟨r,pf,pl,pc⟩,bg',d'⟩,z'⟩:=R;simp only[gx]at HIC ⊢;go_enter Tryz.func157,Tryz.ntmps157
  go_upto_region 1 with fail
  rw[HW.out];go_wp2_with fail;refine Calls.mono HIC.out ?_;rintro e w2 ⟨rfl,H2,D2,M2,hs2⟩;have hF2:=M2.1.get hF (by rintro (e | e | e);omega;omega;exact HNI.out _ (by omega) e);obtain⟨j0,j1,j2,j3⟩:=bR hF2;have y:=ak hF2;have HA':=(show Hid _ from fun a0 a1 a2 a3=>jd D2 (M2.first hK) (F:=w.heap.size+1) (by omega) (by omega) (M2.fresh _ hFw (HNI.out _ (by omega))) a0 a1 a2 a3);have HSC:=(show Hid _ from fun a0 a1 a2 a3 hh=>(hs2 hh).kept (ie (r:=w.heap.size+1) a0 a1 a2 a3) (by simp;omega));clear hs2 i0 i3 i4 i5;go_wp2
  exact bodyPost_ret (v:=.agg #[.int .i64 r,.string pf,.int .i64 pl,.int .i64 pc]) (by simp[results,Tryz.results157,go_sem,j0,j1,j2,j3]) rfl
   ⟨rfl,H2,(HA'.out _ _ _ _).1,(HA'.out _ _ _ _).2,fun hh=>HSC.out _ _ _ _ hh⟩
theorem zr(n d:ByteArray)(w:World) :
  Calls Tryz.prog 153 #[.agg #[.string n,.string d]] w fun e w'=>∃s,e=.returned (.pointer (some ⟨s,0,none⟩))/\w.heap.size<=s/\bN w' s n d 0/\ab [] w w':=by
 go_enter Tryz.func153,Tryz.ntmps153;go_wp2;go_ret;refine⟨w.heap.size+1,rfl,by omega,?_,((ab.refl _ _).alloc _).alloc _⟩;have:=heap_alloc_new (w.alloc (.cells #[.string n,.string d] 68)) (.cells #[.string n,.string d,.int .i64 0,.int .i64 1,.int .i64 1] 300);simpa [bN,kV,aL,aW] using this
theorem aw.beyond{b:Nat}{w wr w':World}{H H1:Nat->Hd}{S:List Nat}(T:aw b w H wr H1)(k:ab S wr w')(hS:∀x,x∈S->w.heap.size<=x):aw b w H w' H1 :=
 ⟨⟨k.os.trans T.1.os,k.tape.trans T.1.tape,k.output.trans T.1.output,Nat.le_trans T.1.size k.size,fun i hi hn=>by
  rw[<-T.1.block i hi hn];exact k.block i (Nat.lt_of_lt_of_le hi T.1.size) (fun hm=>by have:=hS i hm;omega)⟩,T.2⟩
theorem aw.word{b sp:Nat}{w wr w':World}{H H1 H2:Nat->Hd}(T:aw b w H wr H1)(M:eQ b sp wr H1 w' H2)(hsp:w.heap.size<=sp):aw b w H w' H2:=by
 refine⟨⟨M.1.os.trans T.1.os,M.1.tape.trans T.1.tape,M.1.output.trans T.1.output,Nat.le_trans T.1.size M.1.size,?_⟩,?_⟩
 ·intro k hk hn
  rw[<-T.1.block k hk hn];refine M.1.block k (Nat.lt_of_lt_of_le hk T.1.size) ?_;rintro (e | e | hm)
  ·exact hn (Or.inl e)
  ·omega
  ·rcases T.2 k hm with h | h
   ·exact hn (Or.inr h)
   ·omega
 ·intro k hk
  rcases M.2 k hk with h | h
  ·exact T.2 k h
  ·exact Or.inr (Nat.le_trans T.1.size h)
theorem DC(v:Nat)(bg:List Bool)(j:Nat):(dq v bg).set (1+j) (.bool true)=dq v (bg.set j true):=by
 unfold dq;rw[Nat.add_comm 1 j,List.set_cons_succ,List.map_set]
theorem zV(v:Nat)(bg:List Bool)(j:Nat)(h:bg.length=4)(hj:j<4):(dq v bg)[1+j]?=some (.bool (bg.getD j true)):=by
 unfold dq;rw[Nat.add_comm 1 j,List.getElem?_cons_succ,List.getElem?_map,List.getD_eq_getElem?_getD];rw[List.getElem?_eq_getElem (by omega)];rfl
set_option maxRecDepth 100000 in
theorem tu(b v f j:Nat)(fs:Fs)(bg:List Bool)(hbg:bg.length=4)(d:Db)(H:Nat->Hd)(w:World)(hj:j<4)
  (h:aN w b 200 (dq v bg) [] d H) (hb:bg.getD j true=true):iI b v fs f j bg d H w:=by
 unfold iI bZ;rw[if_pos hb];have hbw:=h.lt;have c1:=h.preCell (1+j) (by rw[il v bg hbg];omega);rw[zV v bg j hbg hj,hb]at c1;have HN:Hid (¬fk H w.heap.size):=fun hm=>by have:=h.inlt hm;omega
 go_enter Tryz.func111,Tryz.ntmps111;go_wp2
 exact bodyPost_ret (v:=.agg #[.int .i64 0,.string ⟨#[]⟩,.int .i64 0,.int .i64 0]) (by simp[results,Tryz.results111,go_sem]) rfl
  ⟨rfl,H,h.still ((ab.refl [] _).alloc _),(aw.refl _ _ _).still ((ab.refl [] _).alloc _)⟩
set_option maxRecDepth 100000 in
theorem vr(b v tt f:Nat)(fs:Fs)(more:List Value)(hsz:∀j,j<fs.length->(aj fs j).size<=1024)(hvb:v≠b)
  (IH:∀g,g<f->∀(j:Nat) (bg:List Bool) (d:Db) (H:Nat->Hd) (w:World) (m:Nat),j<fs.length->bg.length=4->lW d m->m+dy fs bg<=9000000->dy fs bg<=g->aN w b 200 (dq v bg) [] d H->bm w v tt fs more->¬fk H v->iI b v fs g j bg d H w)
  (j:Nat) (bg:List Bool) (d:Db) (H:Nat->Hd) (w:World) (m:Nat) (hj:j<fs.length) (hbg:bg.length=4) (hB:lW d m) (hm:m+dy fs bg<=9000000) (hf:dy fs bg<=f)
  (h:aN w b 200 (dq v bg) [] d H) (ht:bm w v tt fs more) (hvi:¬fk H v) (hb:bg.getD j true=false):iI b v fs f j bg d H w:=by
 unfold iI bZ;rw[if_neg (by rw[hb];simp)];have hlen:=ht.2;have hs:=hsz j hj;have hms:=uI fs bg j hbg hb;obtain⟨n,hn⟩:∃n,aC fs j=n:=⟨_,rfl⟩
 obtain⟨s,hsd⟩:∃s,aj fs j=s:=⟨_,rfl⟩
 rw[hsd]at hs hms;have hbw:=h.lt;have hfr:=h.free;have hvw:=ht.lt;have c1:=h.preCell (1+j) (by rw[il v bg hbg];omega);rw[zV v bg j hbg (by omega),hb]at c1;have c0:=h.preCell 0 (by simp[dq]);have c0':w.cell? ⟨b,0,none⟩=some (.pointer (some ⟨v,0,none⟩)):=c0;clear c0;have P1:=h.pre (1+j) (by rw[il v bg hbg];omega) (.bool true);rw[DC]at P1;obtain⟨bg1,hbg1⟩:∃bg1,bg.set j true=bg1:=⟨_,rfl⟩
 have hl1:bg1.length=4:=by rw[<-hbg1];simpa using hbg
 rw[hbg1]at P1 hms ⊢;clear hbg1;obtain⟨W,hW⟩:∃W,W=(w.setCell ⟨b,1+j,none⟩ (.bool true)).alloc (.cells #[.int .i64 0,.string ⟨#[]⟩,.int .i64 0,.int .i64 0] 87):=⟨_,rfl⟩
 have D1:aN W b 200 (dq v bg1) [] d H:=by rw[hW];exact P1.1.still ((ab.refl [] _).alloc _)
 have T1:aw b w H W H:=by rw[hW];exact P1.2.still ((ab.refl [] _).alloc _)
 have F1:W.heap[w.heap.size]?=some (.cells aZ 87 (0,0)):=by
  rw[hW];have:=heap_alloc_new (w.setCell ⟨b,1+j,none⟩ (.bool true)) (.cells aZ 87);simpa [World.setCell,aZ] using this
 have ht1:bm W v tt fs more:=⟨T1.1.get ht.1 (by rintro (e | e);exact hvb e;exact hvi e),ht.2⟩;have HNI:Hid (∀k,w.heap.size<=k->¬fk H k):=fun k hk hm=>by have:=h.inlt hm;omega
 have HW:=(show Hid _ from hW.symm);have HIH:=(show Hid _ from IH);clear P1 hW IH;go_enter Tryz.func111,Tryz.ntmps111;go_wp2_with fail;rw[HW.out];clear HW c1 c0' hfr ht h;refine(GP v tt j fs more _ ht1 hj).mono ?_;rintro e w2 ⟨rfl,hk2⟩;rw[hn,hsd];go_wp2_with fail;refine(zr n s _).mono ?_;rintro e w3 ⟨sp,rfl,hsp,h3,hk3⟩;go_wp2_with fail;refine(pN sp 0 n s _ hs (by omega) h3).mono ?_;rintro e w4 ⟨rfl,h4,hk4⟩;have hWl:=ae F1;have hz2:=hk2.size;have hz3:=hk3.size;have hz4:=hk4.size;have hspw:w.heap.size<sp:=by omega
 have hspb:sp≠b:=by omega
 have hvs:v≠sp:=by omega
 have T4:aw b w H w4 H:=(((T1.still hk2).still hk3).beyond hk4 (by simp;omega));have F4:w4.heap[w.heap.size]?=some (.cells aZ 87 (0,0)):=hk4.get (hk3.get (hk2.get F1 (by simp)) (by simp)) (by simp;omega);have D4:aN w4 b 200 (dq v bg1) [] d H:=((D1.still hk2).still hk3).kept hk4 (by simp;omega) (by intro k hk;simp;rintro rfl;exact HNI.out _ (by omega) hk);have TB4:bm w4 v tt fs more:=((ht1.kept hk2 (by simp)).kept hk3 (by simp)).kept hk4 (by simp;omega);have hsp4:=ae h4;clear D1 T1 F1 ht1 hk2 hk3 hk4 h3;simp only[eu];go_wp2
 go_loopg [7] s.size (fun gk _ wr=>∃(k g m1:Nat) (bg':List Bool) (d':Db) (H1:Nat->Hd),k<=s.size/\gk=s.size-k/\bg'.length=4/\lW d' m1/\m1+(s.size-k)+dy fs bg'<=9000000/\(s.size-k)+dy fs bg'+1<=g/\g<=f /\
  Hid (aX fs f j 0 bg1 d=aX fs g j k bg' d')/\bN wr sp n s (av s k).2/\iq wr w4.heap.size n s (av s k).1 /\
  wr.heap[w.heap.size]?=some (.cells aZ 87 (0,0))/\aN wr b 200 (dq v bg') [] d' H1/\bm wr v tt fs more/\aw b w H wr H1/\(¬fk H1 sp/\¬fk H1 w4.heap.size/\¬fk H1 w.heap.size/\¬fk H1 v))
 case atStart=>exact⟨0,f,m,bg1,d,H,by omega,by omega,hl1,hB,by omega,by omega,Nat.le_refl _,rfl,h4.kept ((ab.refl [] _).alloc _) (by simp),heap_alloc_new _ _,((ab.refl [] _).alloc _).get F4 (by simp),D4.still ((ab.refl [] _).alloc _),TB4.kept ((ab.refl [] _).alloc _) (by simp),T4.still ((ab.refl [] _).alloc _),HNI.out _ (by omega),HNI.out _ (by omega),HNI.out _ (by omega),hvi⟩
 case round =>
  obtain⟨k,g,m1,bg',d',H1,hk,hg,hl',hB1,hm1,hfg,hgf,hR,h5,hI,hF,D,TB,T,hn1,hn2,hn3,hn4⟩:=hrel;obtain⟨g',rfl⟩:∃g',g=g'+1:=⟨g-1,by omega⟩
  clear D4 T4 F4 TB4 h4;have hnl:=eM s k hk;have htx:=pD s k hs;have SK:=zy fs g' (GU fs g').2 j k bg' d' m1 (by rw[hsd];exact hk) hl' hB1;have L1:=wl fs g' j k bg' d';have L2:=mO fs g' j k bg' d';have L3:=xf fs g' j k bg' d';have L4:=ut fs g' j k bg' d';have ST:eW fs g' j k bg' d'=iG (bZ fs g') fs j (av s k).2 (av s k).1.text (jB n s (av s k).1.pos) bg' d':=by unfold eW;rw[hn,hsd]
  rw[hsd]at SK L1 L2 L3 L4;rw[hn]at L4;rw[ST]at SK L1 L2;have L6:aG (av s k).1=false->(av s k).1.fin=false->((av s k).1.rule==0)=false:=i8;have HSK:=(show Hid _ from SK);have HL1:=(show Hid _ from L1);have HL2:=(show Hid _ from L2);have HL3:=(show Hid _ from L3);have HL4:=(show Hid _ from L4);have HL6:=(show Hid _ from L6);clear SK L1 L2 L3 L4 L6 ST;generalize hrr:av s k=r at *;obtain⟨⟨t,u,fi,p⟩,z⟩:=r;clear hrr;simp only at h5 hI hnl htx HSK HL1 HL2 HL3 HL4 HL6;obtain⟨q0,q1,q2,q3,q4,q5⟩:=hI.cells;have hFw:=ae hF;have hsw:=ae h5;have hIw:=ae hI;have hDw:=D.lt
  cases hw:(u==0 && !fi)
  ·cases fi
   ·have HF:Hid (aX fs f j 0 bg1 d=(gF n s ⟨t,u,false,p⟩,bg',d')):=hR.out.trans (HL4.out hw (by simp))
    have hu:(u==0)=false:=by simpa using hw
    clear HL1 HL2 HL3 HL4 HL6 HSK;go_wp2_with fail;refine(cr t n _ (aL s p) (aW s p) _ _).mono ?_;rintro e w5 ⟨rfl,hk5⟩;have hI5:=hI.kept hk5 (by simp);have hF5:=hk5.get hF (by simp);have D5:=D.still hk5;have T5:=T.still hk5;clear q0 q1 q2 q3 q4 q5 hI h5 hF D T hk5 TB;obtain⟨q0,q1,q2,q3,q4,q5⟩:=hI5.cells;go_wp2_with fail;refine(lH t n u (aL s p) (aW s p) _ _).mono ?_;rintro e w6 ⟨rfl,hk6⟩;simp only[Bool.false_eq_true,if_false];have hF6:=hk6.get hF5 (by simp);have D6:=D5.still hk6;have T6:=T5.still hk6;have HA':=(show Hid _ from fun a0 a1 a2 a3=>lX D6 T6 (F:=w.heap.size) (Nat.le_refl _) (by omega) hn3 a0 a1 a2 a3);obtain⟨z0,z1,z2,z3⟩:=bR hF6;have y:=ak hF6;go_wp2
    exact bodyPost_ret (v:=.agg #[.int .i64 u,.string n,.int .i64 (aL s p),.int .i64 (aW s p)]) (by simp[results,Tryz.results111,go_sem,z0,z1,z2,z3]) rfl
     ⟨by rw[HF.out];rfl,H1,by rw[HF.out];exact(HA'.out _ _ _ _).1,(HA'.out _ _ _ _).2⟩
   ·cases ho:jb d'
    ·have HF:Hid (aX fs f j 0 bg1 d=(cI,bg',d')):=hR.out.trans (HL3.out hw rfl ho)
     clear HL1 HL2 HL3 HL4 HL6 HSK;go_wp2_with fail;refine(cr t n _ (aL s p) (aW s p) _ _).mono ?_;rintro e w5 ⟨rfl,hk5⟩;have hI5:=hI.kept hk5 (by simp);have hF5:=hk5.get hF (by simp);have D5:=D.still hk5;have T5:=T.still hk5;clear q0 q1 q2 q3 q4 q5 hI h5 hF D T hk5 TB;obtain⟨q0,q1,q2,q3,q4,q5⟩:=hI5.cells;go_wp2_with fail;refine(pX b 200 5 (dq v bg') [] d' H1 _ D5 (il v bg' hl')).mono ?_;rintro e w6 ⟨rfl,hw6⟩;subst hw6;rw[ho];have HA':=(show Hid _ from fun a0 a1 a2 a3=>lX D5 T5 (F:=w.heap.size) (Nat.le_refl _) (by omega) hn3 a0 a1 a2 a3);obtain⟨z0,z1,z2,z3⟩:=bR hF5;have y:=ak hF5;go_wp2
     exact bodyPost_ret (v:=.agg #[.int .i64 0,.string ⟨#[]⟩,.int .i64 0,.int .i64 0]) (by simp[results,Tryz.results111,go_sem,z0,z1,z2,z3]) rfl
      ⟨by rw[HF.out];rfl,H1,by rw[HF.out];exact(HA'.out _ _ _ _).1,(HA'.out _ _ _ _).2⟩
    ·have HF:Hid (aX fs f j 0 bg1 d=(gF n s ⟨t,u,true,p⟩,bg',d')):=hR.out.trans (HL4.out hw (by simp[ho]))
     clear HL1 HL2 HL3 HL4 HL6 HSK;go_wp2_with fail;refine(cr t n _ (aL s p) (aW s p) _ _).mono ?_;rintro e w5 ⟨rfl,hk5⟩;have hI5:=hI.kept hk5 (by simp);have hF5:=hk5.get hF (by simp);have D5:=D.still hk5;have T5:=T.still hk5;clear q0 q1 q2 q3 q4 q5 hI h5 hF D T hk5 TB;obtain⟨q0,q1,q2,q3,q4,q5⟩:=hI5.cells;go_wp2_with fail;refine(pX b 200 5 (dq v bg') [] d' H1 _ D5 (il v bg' hl')).mono ?_;rintro e w6 ⟨rfl,hw6⟩;subst hw6;rw[ho];go_wp2_with fail;refine(lH t n u (aL s p) (aW s p) _ _).mono ?_;rintro e w7 ⟨rfl,hk7⟩;simp only[if_true];have hF7:=hk7.get hF5 (by simp);have D7:=D5.still hk7;have T7:=T5.still hk7;have HA':=(show Hid _ from fun a0 a1 a2 a3=>lX D7 T7 (F:=w.heap.size) (Nat.le_refl _) (by omega) hn3 a0 a1 a2 a3);obtain⟨z0,z1,z2,z3⟩:=bR hF7;have y:=ak hF7;go_wp2
     exact bodyPost_ret (v:=.agg #[.int .i64 7,.string n,.int .i64 (aL s p),.int .i64 (aW s p)]) (by simp[results,Tryz.results111,go_sem,z0,z1,z2,z3]) rfl
      ⟨by rw[HF.out];rfl,H1,by rw[HF.out];exact(HA'.out _ _ _ _).1,(HA'.out _ _ _ _).2⟩
  ·have hu:u=0:=by simp at hw;exact hw.1
   have hfi:fi=false:=by simp at hw;exact hw.2
   subst hu hfi;have hsm:=hB1.small (N:=10000000) (by omega);have hsm2:=(hB1.small (N:=100000000) (by omega)).2
   have RW:=fun(w':World) (h':aN w' b 200 (dq v bg') [] d' H1) (hsc:bN w' sp n s z) (htb:bm w' v tt fs more)=>xH b v tt sp g' j z fs more bg' hl' d' H1 n s t (aL s p) (aW s p) w' h' hn hsd hs hnl.2.1 hsc htb hspb hvs hn1 hsm.1 (by omega) hsm2
    (fun jj ww hjj hdd htt=>HIH.out g' (by omega) jj bg' d' H1 ww m1 hjj hl' hB1 (by omega) (by omega) hdd htt hn4)
   have HRW:=(show Hid _ from RW);have HSK':=(show Hid _ from HSK.out hw);have HL1':=(show Hid _ from HL1.out hw);have HL2':=(show Hid _ from HL2.out hw);clear RW HL1 HL2 HL3 HL4 HL6 HSK;simp only[jB]at HSK' HL1' HL2';generalize iG (bZ fs g') fs j z t ⟨n,aL s p,aW s p⟩ bg' d'=Q at *;obtain⟨⟨⟨r,pf,pl,pc⟩,bg2,d2⟩,z2⟩:=Q;simp only[gx]at HSK' HL1' HL2' HRW;have hz2':=HSK'.out.2;obtain⟨hl2,hme,m2,hB2,hm2⟩:=HSK'.out.1;simp only at hl2 hme hB2 hm2 hz2';clear HSK'
   cases hr:(r==0)
   ·have hr':(r != 0)=true:=by simp[bne,hr]
    have HF:Hid (aX fs f j 0 bg1 d=((r,⟨pf,pl,pc⟩),bg2,d2)):=hR.out.trans (HL2'.out hr);clear HL1' HL2';go_wp2_with fail;refine(cr t n _ (aL s p) (aW s p) _ _).mono ?_;rintro e w5 ⟨rfl,hk5⟩;have hI5:=hI.kept hk5 (by simp);have h55:=h5.kept hk5 (by simp);have hF5:=hk5.get hF (by simp);have D5:=D.still hk5;have T5:=T.still hk5;have TB5:=TB.kept hk5 (by simp);clear q0 q1 q2 q3 q4 q5 hI h5 hF D T TB hk5;obtain⟨q0,q1,q2,q3,q4,q5⟩:=hI5.cells;go_wp2_with fail;refine(HRW.out _ D5 h55 TB5).mono ?_;rintro e w6 ⟨rfl,H2,D6,M6,-⟩;have hF6:=M6.1.get hF5 (by rintro (e | e | e);omega;omega;exact hn3 e);have m3:=M6.fresh w.heap.size (ae hF5) hn3;have T7:=T5.word M6 (by omega);have hF6w:=ae hF6;have y6:=ak hF6;obtain⟨z0,z1,z2,z3⟩:=bR hF6;have HA':=(show Hid _ from fun a0 a1 a2 a3=>lX D6 T7 (F:=w.heap.size) (Nat.le_refl _) (by omega) m3 a0 a1 a2 a3);clear q0 q1 q2 q3 q4 q5;go_wp2
    exact bodyPost_ret (v:=.agg #[.int .i64 r,.string pf,.int .i64 pl,.int .i64 pc]) (by simp[results,Tryz.results111,go_sem,hF6w,z0,z1,z2,z3]) rfl
     ⟨by rw[HF.out];rfl,H2,by rw[HF.out];exact(HA'.out _ _ _ _).1.still ((ab.refl [] _).alloc _),((HA'.out _ _ _ _).2.still ((ab.refl [] _).alloc _))⟩
   ·have hr':(r != 0)=false:=by simp[bne,hr]
    have HF:Hid (aX fs f j 0 bg1 d=aX fs g' j z2 bg2 d2):=hR.out.trans (HL1'.out hr);clear HL1' HL2';go_wp2_with fail;refine(cr t n _ (aL s p) (aW s p) _ _).mono ?_;rintro e w5 ⟨rfl,hk5⟩;have hI5:=hI.kept hk5 (by simp);have h55:=h5.kept hk5 (by simp);have hF5:=hk5.get hF (by simp);have D5:=D.still hk5;have T5:=T.still hk5;have TB5:=TB.kept hk5 (by simp);clear q0 q1 q2 q3 q4 q5 hI h5 hF D T TB hk5;obtain⟨q0,q1,q2,q3,q4,q5⟩:=hI5.cells;go_wp2_with fail;refine(HRW.out _ D5 h55 TB5).mono ?_;rintro e w6 ⟨rfl,H2,D6,M6,hs6⟩;have h6:=hs6 hr;have hF6:=M6.1.get hF5 (by rintro (e | e | e);omega;omega;exact hn3 e);have hI6:iq w6 w4.heap.size n s ⟨t,0,false,p⟩:=M6.1.get hI5 (by rintro (e | e | e);omega;omega;exact hn2 e);have TB6:bm w6 v tt fs more:=⟨M6.1.get TB5.1 (by rintro (e | e | e);exact hvb e;exact hvs e;exact hn4 e),TB5.2⟩;have e1:=M6.fresh sp (ae h55) hn1;have e2:=M6.fresh w4.heap.size (ae hI5) hn2;have e3:=M6.fresh w.heap.size (ae hF5) hn3;have e4:=M6.fresh v TB5.lt hn4;have T7:=T5.word M6 (by omega);have hF6w:=ae hF6;have hI6w:=ae hI6;have h6w:=ae h6;go_wp2_with fail;refine(pN sp z2 n s _ hs hz2'.2 (by exact h6.kept ((ab.refl [] _).alloc _) (by simp))).mono ?_;rintro e w8 ⟨rfl,h8,hk8⟩;have hI8:=(hI6.kept ((ab.refl [] _).alloc _) (by simp)).kept hk8 (by simp;omega);have hF8:=hk8.get (((ab.refl [] _).alloc _).get hF6 (by simp)) (by simp;omega);have D8:=(D6.still ((ab.refl [] _).alloc _)).kept hk8 (by simp;omega) (by intro k hk;simp;rintro rfl;exact e1 hk);have TB8:=(TB6.kept ((ab.refl [] _).alloc _) (by simp)).kept hk8 (by simp;omega);have T8:=(T7.still ((ab.refl [] _).alloc _)).beyond hk8 (by simp;omega);have yy:=ak hI8;have hI8w:=ae hI8;clear q0 q1 q2 q3 q4 q5;obtain⟨q0,q1,q2,q3,q4,q5⟩:=hI8.cells;simp only[eu];go_wp2
    go_roundg (s.size-z2)
    case measure=>omega
    case rel =>
     exact⟨z2,g',m2,bg2,d2,H2,hz2'.2,rfl,hl2,hB2,by omega,by omega,by omega,HF.out,fF h8 (by omega) _ _ _ _ _ _,nI hI8 _,rm hF8 (by omega) _ _ _ _ _ _,
      D8.kept (Ak _ _ _ _ _ _) (by simp;omega) (by intro k hk;simp;rintro rfl;exact e2 hk),TB8.kept (Ak _ _ _ _ _ _) (by simp;omega),T8.beyond (Ak _ _ _ _ _ _) (by simp;omega),e1,e2,e3,e4⟩
theorem wF(b v tt:Nat)(fs:Fs)(more:List Value)(hsz:∀j,j<fs.length->(aj fs j).size<=1024)(hvb:v≠b)(f:Nat):∀(j:Nat) (bg:List Bool) (d:Db) (H:Nat->Hd) (w:World) (m:Nat),j<fs.length->bg.length=4->lW d m->m+dy fs bg<=9000000->dy fs bg<=f->aN w b 200 (dq v bg) [] d H->bm w v tt fs more->¬fk H v->iI b v fs f j bg d H w:=by
 induction f using Nat.strongRecOn with
 | _ f IH =>
  intro j bg d H w m hj hbg hB hm hf h ht hvi
  cases hb:bg.getD j true with
  | true=>exact tu b v f j fs bg hbg d H w (by have:=ht.2;omega) h hb
  | false=>exact vr b v tt f fs more hsz hvb IH j bg d H w m hj hbg hB hm hf h ht hvi hb
end Go.Proofs.YtpddjjabfbfifaaGreat

import Derived.Test.YtpddjjabfbfifaaGreatG08
namespace Go.Proofs.YtpddjjabfbfifaaGreat
open Go.RowKit
set_option maxHeartbeats 40000000
set_option maxRecDepth 100000 in
theorem xA(b v tt sp f x z:Nat)(fs:Fs)(more:List Value)(bg:List Bool)(hbg:bg.length=4)(d:Db)(H:Nat->Hd)(n s t:ByteArray)(l c:Int)(w:World)
  (h:aN w b 200 (du v bg) [] d H) (hn:aC fs x=n) (hsd:aj fs x=s) (hs:s.size<=1024) (hz:z<=s.size) (hsc:bN w sp n s z) (ht:bm w v tt fs more)
  (hspb:sp≠b) (hvs:v≠sp) (hsi:¬fm H sp) (hsm:eR d 10000000) (htx:t.size<=1073741824) (hin:xT d 100000000)
  (RF:Hid (∀(j:Nat) (w':World),j<fs.length->aN w' b 200 (du v bg) [] d H->bm w' v tt fs more->iD b v fs f j bg d H w')) :
  Calls Tryz.prog 157 #[.pointer (some ⟨b,0,none⟩),.pointer (some ⟨sp,0,none⟩),.agg #[.string t,.int .i64 0,.bool false,.string n,.int .i64 l,.int .i64 c]] w fun e w' =>
   e=.returned (gu (iO (b7 fs f) fs x z t ⟨n,l,c⟩ bg d).1.1)/\∃H',aN w' b 200 (du v (iO (b7 fs f) fs x z t ⟨n,l,c⟩ bg d).1.2.1) [] (iO (b7 fs f) fs x z t ⟨n,l,c⟩ bg d).1.2.2 H'/\eQ b sp w H w' H' /\
    (((iO (b7 fs f) fs x z t ⟨n,l,c⟩ bg d).1.1.1==0)=true->bN w' sp n s (iO (b7 fs f) fs x z t ⟨n,l,c⟩ bg d).2):=by
 cases hi:(t.toList == [36,91])
 ·have HT:iO (b7 fs f) fs x z t ⟨n,l,c⟩ bg d=((if((aV d t ⟨n,l,c⟩).1==0)=true then cJ else((aV d t ⟨n,l,c⟩).1,⟨n,l,c⟩),bg,(aV d t ⟨n,l,c⟩).2),z):=by
   unfold iO;rw[hi];simp
  rw[HT];refine(rd b 200 v bg hbg d H _ t n l c w h hsm htx hin hi).mono ?_;rintro e w' ⟨rfl,H',D',T'⟩;exact⟨rfl,H',D',T'.moved sp,fun _=>T'.1.get hsc (by rintro (e | e);exact hspb e;exact hsi e)⟩
 ·have HT:iO (b7 fs f) fs x z t ⟨n,l,c⟩ bg d=lC (b7 fs f) fs x z ⟨n,l,c⟩ bg d:=by
   unfold iO;rw[hi];simp
  rw[HT];obtain⟨W,hW⟩:∃W,W=((w.alloc (.cells #[.string t,.int .i64 0,.bool false,.string n,.int .i64 l,.int .i64 c] 255)).alloc (.cells #[.int .i64 0,.string ⟨#[]⟩,.int .i64 0,.int .i64 0] 87)):=⟨_,rfl⟩
  have hK:ab [] w W:=by rw[hW];exact((ab.refl [] w).alloc _).alloc _
  have hbw:=h.lt;have hspw:=ae hsc
  have hI:W.heap[w.heap.size]?=some (.cells #[.string t,.int .i64 0,.bool false,.string n,.int .i64 l,.int .i64 c] 255 (0,0)):=by
   rw[hW];exact((ab.refl [] _).alloc _).get (heap_alloc_new _ _) (by simp)
  have hF:W.heap[w.heap.size+1]?=some (.cells a9 87 (0,0)):=by
   rw[hW];have:=heap_alloc_new (w.alloc (.cells #[.string t,.int .i64 0,.bool false,.string n,.int .i64 l,.int .i64 c] 255)) (.cells #[.int .i64 0,.string ⟨#[]⟩,.int .i64 0,.int .i64 0] 87);simpa [a9] using this
  have i0:W.cell? ⟨w.heap.size,0,none⟩=some (.string t):=by rw[aa hI];rfl
  have i3:W.cell? ⟨w.heap.size,3,none⟩=some (.string n):=by rw[aa hI];rfl
  have i4:W.cell? ⟨w.heap.size,4,none⟩=some (.int .i64 l):=by rw[aa hI];rfl
  have i5:W.cell? ⟨w.heap.size,5,none⟩=some (.int .i64 c):=by rw[aa hI];rfl
  have IC:=yS b v tt sp f x z fs more bg hbg d H n s l c W (h.still hK) hn hsd hs hz (hsc.kept hK (by simp)) (ht.kept hK (by simp)) hspb hvs hsi RF;have HIC:=(show Hid _ from IC);have HNI:Hid (∀k,w.heap.size<=k->¬fm H k):=fun k hk hm=>by have:=h.inlt hm;omega
  have HW:=(show Hid _ from hW.symm);have hFw:=ae hF;clear hW IC RF HT h;generalize lC (b7 fs f) fs x z ⟨n,l,c⟩ bg d=R at *;obtain⟨⟨⟨r,pf,pl,pc⟩,bg',d'⟩,z'⟩:=R;simp only[gu]at HIC ⊢;go_enter Tryz.func157,Tryz.ntmps157
  go_upto_region 1 with fail
  rw[HW.out];go_wp2_with fail;refine Calls.mono HIC.out ?_;rintro e w2 ⟨rfl,H2,D2,M2,hs2⟩;have hF2:=M2.1.get hF (by rintro (e | e | e);omega;omega;exact HNI.out _ (by omega) e);obtain⟨j0,j1,j2,j3⟩:=bR hF2;have y:=ak hF2;have HA':=(show Hid _ from fun a0 a1 a2 a3=>jb D2 (M2.first hK) (F:=w.heap.size+1) (by omega) (by omega) (M2.fresh _ hFw (HNI.out _ (by omega))) a0 a1 a2 a3);have HSC:=(show Hid _ from fun a0 a1 a2 a3 hh=>(hs2 hh).kept (ig (r:=w.heap.size+1) a0 a1 a2 a3) (by simp;omega));clear hs2 i0 i3 i4 i5;go_wp2
  exact bodyPost_ret (v:=.agg #[.int .i64 r,.string pf,.int .i64 pl,.int .i64 pc]) (by simp[results,Tryz.results157,go_sem,j0,j1,j2,j3]) rfl
   ⟨rfl,H2,(HA'.out _ _ _ _).1,(HA'.out _ _ _ _).2,fun hh=>HSC.out _ _ _ _ hh⟩
theorem zf(n d:ByteArray)(w:World) :
  Calls Tryz.prog 153 #[.agg #[.string n,.string d]] w fun e w'=>∃s,e=.returned (.pointer (some ⟨s,0,none⟩))/\w.heap.size<=s/\bN w' s n d 0/\ab [] w w':=by
 go_enter Tryz.func153,Tryz.ntmps153;go_wp2;go_ret;refine⟨w.heap.size+1,rfl,by omega,?_,((ab.refl _ _).alloc _).alloc _⟩;have:=heap_alloc_new (w.alloc (.cells #[.string n,.string d] 68)) (.cells #[.string n,.string d,.int .i64 0,.int .i64 1,.int .i64 1] 300);simpa [bN,kY,aL,aW] using this
theorem aw.beyond{b:Nat}{w wr w':World}{H H1:Nat->Hd}{S:List Nat}(T:aw b w H wr H1)(k:ab S wr w')(hS:∀x,x∈S->w.heap.size<=x):aw b w H w' H1 :=
 ⟨⟨k.os.trans T.1.os,k.tape.trans T.1.tape,k.output.trans T.1.output,Nat.le_trans T.1.size k.size,fun i hi hn=>by
  rw[<-T.1.block i hi hn];exact k.block i (Nat.lt_of_lt_of_le hi T.1.size) (fun hm=>by have:=hS i hm;omega)⟩,T.2⟩
theorem aw.word{b sp:Nat}{w wr w':World}{H H1 H2:Nat->Hd}(T:aw b w H wr H1)(M:eQ b sp wr H1 w' H2)(hsp:w.heap.size<=sp):aw b w H w' H2:=by
 refine⟨⟨M.1.os.trans T.1.os,M.1.tape.trans T.1.tape,M.1.output.trans T.1.output,Nat.le_trans T.1.size M.1.size,?_⟩,?_⟩
 ·intro k hk hn
  rw[<-T.1.block k hk hn];refine M.1.block k (Nat.lt_of_lt_of_le hk T.1.size) ?_;rintro (e | e | hm)
  ·exact hn (Or.inl e)
  ·omega
  ·rcases T.2 k hm with h | h
   ·exact hn (Or.inr h)
   ·omega
 ·intro k hk
  rcases M.2 k hk with h | h
  ·exact T.2 k h
  ·exact Or.inr (Nat.le_trans T.1.size h)
theorem Eu(v:Nat)(bg:List Bool)(j:Nat):(du v bg).set (1+j) (.bool true)=du v (bg.set j true):=by
 unfold du;rw[Nat.add_comm 1 j,List.set_cons_succ,List.map_set]
theorem zp(v:Nat)(bg:List Bool)(j:Nat)(h:bg.length=4)(hj:j<4):(du v bg)[1+j]?=some (.bool (bg.getD j true)):=by
 unfold du;rw[Nat.add_comm 1 j,List.getElem?_cons_succ,List.getElem?_map,List.getD_eq_getElem?_getD];rw[List.getElem?_eq_getElem (by omega)];rfl
set_option maxRecDepth 100000 in
theorem un(b v f j:Nat)(fs:Fs)(bg:List Bool)(hbg:bg.length=4)(d:Db)(H:Nat->Hd)(w:World)(hj:j<4)
  (h:aN w b 200 (du v bg) [] d H) (hb:bg.getD j true=true):iD b v fs f j bg d H w:=by
 unfold iD b7;rw[if_pos hb];have hbw:=h.lt;have c1:=h.preCell (1+j) (by rw[ik v bg hbg];omega);rw[zp v bg j hbg hj,hb]at c1;have HN:Hid (¬fm H w.heap.size):=fun hm=>by have:=h.inlt hm;omega
 go_enter Tryz.func111,Tryz.ntmps111;go_wp2
 exact bodyPost_ret (v:=.agg #[.int .i64 0,.string ⟨#[]⟩,.int .i64 0,.int .i64 0]) (by simp[results,Tryz.results111,go_sem]) rfl
  ⟨rfl,H,h.still ((ab.refl [] _).alloc _),(aw.refl _ _ _).still ((ab.refl [] _).alloc _)⟩
set_option maxRecDepth 100000 in
theorem vk(b v tt f:Nat)(fs:Fs)(more:List Value)(hsz:∀j,j<fs.length->(aj fs j).size<=1024)(hvb:v≠b)
  (IH:∀g,g<f->∀(j:Nat) (bg:List Bool) (d:Db) (H:Nat->Hd) (w:World) (m:Nat),j<fs.length->bg.length=4->lV d m->m+dx fs bg<=9000000->dx fs bg<=g->aN w b 200 (du v bg) [] d H->bm w v tt fs more->¬fm H v->iD b v fs g j bg d H w)
  (j:Nat) (bg:List Bool) (d:Db) (H:Nat->Hd) (w:World) (m:Nat) (hj:j<fs.length) (hbg:bg.length=4) (hB:lV d m) (hm:m+dx fs bg<=9000000) (hf:dx fs bg<=f)
  (h:aN w b 200 (du v bg) [] d H) (ht:bm w v tt fs more) (hvi:¬fm H v) (hb:bg.getD j true=false):iD b v fs f j bg d H w:=by
 unfold iD b7;rw[if_neg (by rw[hb];simp)];have hlen:=ht.2;have hs:=hsz j hj;have hms:=ua fs bg j hbg hb;obtain⟨n,hn⟩:∃n,aC fs j=n:=⟨_,rfl⟩
 obtain⟨s,hsd⟩:∃s,aj fs j=s:=⟨_,rfl⟩
 rw[hsd]at hs hms;have hbw:=h.lt;have hfr:=h.free;have hvw:=ht.lt;have c1:=h.preCell (1+j) (by rw[ik v bg hbg];omega);rw[zp v bg j hbg (by omega),hb]at c1;have c0:=h.preCell 0 (by simp[du]);have c0':w.cell? ⟨b,0,none⟩=some (.pointer (some ⟨v,0,none⟩)):=c0;clear c0;have P1:=h.pre (1+j) (by rw[ik v bg hbg];omega) (.bool true);rw[Eu]at P1;obtain⟨bg1,hbg1⟩:∃bg1,bg.set j true=bg1:=⟨_,rfl⟩
 have hl1:bg1.length=4:=by rw[<-hbg1];simpa using hbg
 rw[hbg1]at P1 hms ⊢;clear hbg1;obtain⟨W,hW⟩:∃W,W=(w.setCell ⟨b,1+j,none⟩ (.bool true)).alloc (.cells #[.int .i64 0,.string ⟨#[]⟩,.int .i64 0,.int .i64 0] 87):=⟨_,rfl⟩
 have D1:aN W b 200 (du v bg1) [] d H:=by rw[hW];exact P1.1.still ((ab.refl [] _).alloc _)
 have T1:aw b w H W H:=by rw[hW];exact P1.2.still ((ab.refl [] _).alloc _)
 have F1:W.heap[w.heap.size]?=some (.cells a9 87 (0,0)):=by
  rw[hW];have:=heap_alloc_new (w.setCell ⟨b,1+j,none⟩ (.bool true)) (.cells a9 87);simpa [World.setCell,a9] using this
 have ht1:bm W v tt fs more:=⟨T1.1.get ht.1 (by rintro (e | e);exact hvb e;exact hvi e),ht.2⟩;have HNI:Hid (∀k,w.heap.size<=k->¬fm H k):=fun k hk hm=>by have:=h.inlt hm;omega
 have HW:=(show Hid _ from hW.symm);have HIH:=(show Hid _ from IH);clear P1 hW IH;go_enter Tryz.func111,Tryz.ntmps111;go_wp2_with fail;rw[HW.out];clear HW c1 c0' hfr ht h;refine(Gi v tt j fs more _ ht1 hj).mono ?_;rintro e w2 ⟨rfl,hk2⟩;rw[hn,hsd];go_wp2_with fail;refine(zf n s _).mono ?_;rintro e w3 ⟨sp,rfl,hsp,h3,hk3⟩;go_wp2_with fail;refine(qc sp 0 n s _ hs (by omega) h3).mono ?_;rintro e w4 ⟨rfl,h4,hk4⟩;have hWl:=ae F1;have hz2:=hk2.size;have hz3:=hk3.size;have hz4:=hk4.size;have hspw:w.heap.size<sp:=by omega
 have hspb:sp≠b:=by omega
 have hvs:v≠sp:=by omega
 have T4:aw b w H w4 H:=(((T1.still hk2).still hk3).beyond hk4 (by simp;omega));have F4:w4.heap[w.heap.size]?=some (.cells a9 87 (0,0)):=hk4.get (hk3.get (hk2.get F1 (by simp)) (by simp)) (by simp;omega);have D4:aN w4 b 200 (du v bg1) [] d H:=((D1.still hk2).still hk3).kept hk4 (by simp;omega) (by intro k hk;simp;rintro rfl;exact HNI.out _ (by omega) hk);have TB4:bm w4 v tt fs more:=((ht1.kept hk2 (by simp)).kept hk3 (by simp)).kept hk4 (by simp;omega);have hsp4:=ae h4;clear D1 T1 F1 ht1 hk2 hk3 hk4 h3;simp only[ew];go_wp2
 go_loopg [7] s.size (fun gk _ wr=>∃(k g m1:Nat) (bg':List Bool) (d':Db) (H1:Nat->Hd),k<=s.size/\gk=s.size-k/\bg'.length=4/\lV d' m1/\m1+(s.size-k)+dx fs bg'<=9000000/\(s.size-k)+dx fs bg'+1<=g/\g<=f /\
  Hid (aX fs f j 0 bg1 d=aX fs g j k bg' d')/\bN wr sp n s (av s k).2/\iq wr w4.heap.size n s (av s k).1 /\
  wr.heap[w.heap.size]?=some (.cells a9 87 (0,0))/\aN wr b 200 (du v bg') [] d' H1/\bm wr v tt fs more/\aw b w H wr H1/\(¬fm H1 sp/\¬fm H1 w4.heap.size/\¬fm H1 w.heap.size/\¬fm H1 v))
 case atStart=>exact⟨0,f,m,bg1,d,H,by omega,by omega,hl1,hB,by omega,by omega,Nat.le_refl _,rfl,h4.kept ((ab.refl [] _).alloc _) (by simp),heap_alloc_new _ _,((ab.refl [] _).alloc _).get F4 (by simp),D4.still ((ab.refl [] _).alloc _),TB4.kept ((ab.refl [] _).alloc _) (by simp),T4.still ((ab.refl [] _).alloc _),HNI.out _ (by omega),HNI.out _ (by omega),HNI.out _ (by omega),hvi⟩
 case round =>
  obtain⟨k,g,m1,bg',d',H1,hk,hg,hl',hB1,hm1,hfg,hgf,hR,h5,hI,hF,D,TB,T,hn1,hn2,hn3,hn4⟩:=hrel;obtain⟨g',rfl⟩:∃g',g=g'+1:=⟨g-1,by omega⟩
  clear D4 T4 F4 TB4 h4;have hnl:=eN s k hk;have htx:=pn s k hs;have SK:=zJ fs g' (Gn fs g').2 j k bg' d' m1 (by rw[hsd];exact hk) hl' hB1;have L1:=vO fs g' j k bg' d';have L2:=mC fs g' j k bg' d';have L3:=xa fs g' j k bg' d';have L4:=tP fs g' j k bg' d';have ST:fe fs g' j k bg' d'=iO (b7 fs g') fs j (av s k).2 (av s k).1.text (jx n s (av s k).1.pos) bg' d':=by unfold fe;rw[hn,hsd]
  rw[hsd]at SK L1 L2 L3 L4;rw[hn]at L4;rw[ST]at SK L1 L2;have L6:aG (av s k).1=false->(av s k).1.fin=false->((av s k).1.rule==0)=false:=jd;have HSK:=(show Hid _ from SK);have HL1:=(show Hid _ from L1);have HL2:=(show Hid _ from L2);have HL3:=(show Hid _ from L3);have HL4:=(show Hid _ from L4);have HL6:=(show Hid _ from L6);clear SK L1 L2 L3 L4 L6 ST;generalize hrr:av s k=r at *;obtain⟨⟨t,u,fi,p⟩,z⟩:=r;clear hrr;simp only at h5 hI hnl htx HSK HL1 HL2 HL3 HL4 HL6;obtain⟨q0,q1,q2,q3,q4,q5⟩:=hI.cells;have hFw:=ae hF;have hsw:=ae h5;have hIw:=ae hI;have hDw:=D.lt
  cases hw:(u==0 && !fi)
  ·cases fi
   ·have HF:Hid (aX fs f j 0 bg1 d=(gF n s ⟨t,u,false,p⟩,bg',d')):=hR.out.trans (HL4.out hw (by simp))
    have hu:(u==0)=false:=by simpa using hw
    clear HL1 HL2 HL3 HL4 HL6 HSK;go_wp2_with fail;refine(cr t n _ (aL s p) (aW s p) _ _).mono ?_;rintro e w5 ⟨rfl,hk5⟩;have hI5:=hI.kept hk5 (by simp);have hF5:=hk5.get hF (by simp);have D5:=D.still hk5;have T5:=T.still hk5;clear q0 q1 q2 q3 q4 q5 hI h5 hF D T hk5 TB;obtain⟨q0,q1,q2,q3,q4,q5⟩:=hI5.cells;go_wp2_with fail;refine(lF t n u (aL s p) (aW s p) _ _).mono ?_;rintro e w6 ⟨rfl,hk6⟩;simp only[Bool.false_eq_true,if_false];have hF6:=hk6.get hF5 (by simp);have D6:=D5.still hk6;have T6:=T5.still hk6;have HA':=(show Hid _ from fun a0 a1 a2 a3=>l4 D6 T6 (F:=w.heap.size) (Nat.le_refl _) (by omega) hn3 a0 a1 a2 a3);obtain⟨z0,z1,z2,z3⟩:=bR hF6;have y:=ak hF6;go_wp2
    exact bodyPost_ret (v:=.agg #[.int .i64 u,.string n,.int .i64 (aL s p),.int .i64 (aW s p)]) (by simp[results,Tryz.results111,go_sem,z0,z1,z2,z3]) rfl
     ⟨by rw[HF.out];rfl,H1,by rw[HF.out];exact(HA'.out _ _ _ _).1,(HA'.out _ _ _ _).2⟩
   ·cases ho:je d'
    ·have HF:Hid (aX fs f j 0 bg1 d=(cJ,bg',d')):=hR.out.trans (HL3.out hw rfl ho)
     clear HL1 HL2 HL3 HL4 HL6 HSK;go_wp2_with fail;refine(cr t n _ (aL s p) (aW s p) _ _).mono ?_;rintro e w5 ⟨rfl,hk5⟩;have hI5:=hI.kept hk5 (by simp);have hF5:=hk5.get hF (by simp);have D5:=D.still hk5;have T5:=T.still hk5;clear q0 q1 q2 q3 q4 q5 hI h5 hF D T hk5 TB;obtain⟨q0,q1,q2,q3,q4,q5⟩:=hI5.cells;go_wp2_with fail;refine(qd b 200 5 (du v bg') [] d' H1 _ D5 (ik v bg' hl')).mono ?_;rintro e w6 ⟨rfl,hw6⟩;subst hw6;rw[ho];have HA':=(show Hid _ from fun a0 a1 a2 a3=>l4 D5 T5 (F:=w.heap.size) (Nat.le_refl _) (by omega) hn3 a0 a1 a2 a3);obtain⟨z0,z1,z2,z3⟩:=bR hF5;have y:=ak hF5;go_wp2
     exact bodyPost_ret (v:=.agg #[.int .i64 0,.string ⟨#[]⟩,.int .i64 0,.int .i64 0]) (by simp[results,Tryz.results111,go_sem,z0,z1,z2,z3]) rfl
      ⟨by rw[HF.out];rfl,H1,by rw[HF.out];exact(HA'.out _ _ _ _).1,(HA'.out _ _ _ _).2⟩
    ·have HF:Hid (aX fs f j 0 bg1 d=(gF n s ⟨t,u,true,p⟩,bg',d')):=hR.out.trans (HL4.out hw (by simp[ho]))
     clear HL1 HL2 HL3 HL4 HL6 HSK;go_wp2_with fail;refine(cr t n _ (aL s p) (aW s p) _ _).mono ?_;rintro e w5 ⟨rfl,hk5⟩;have hI5:=hI.kept hk5 (by simp);have hF5:=hk5.get hF (by simp);have D5:=D.still hk5;have T5:=T.still hk5;clear q0 q1 q2 q3 q4 q5 hI h5 hF D T hk5 TB;obtain⟨q0,q1,q2,q3,q4,q5⟩:=hI5.cells;go_wp2_with fail;refine(qd b 200 5 (du v bg') [] d' H1 _ D5 (ik v bg' hl')).mono ?_;rintro e w6 ⟨rfl,hw6⟩;subst hw6;rw[ho];go_wp2_with fail;refine(lF t n u (aL s p) (aW s p) _ _).mono ?_;rintro e w7 ⟨rfl,hk7⟩;simp only[if_true];have hF7:=hk7.get hF5 (by simp);have D7:=D5.still hk7;have T7:=T5.still hk7;have HA':=(show Hid _ from fun a0 a1 a2 a3=>l4 D7 T7 (F:=w.heap.size) (Nat.le_refl _) (by omega) hn3 a0 a1 a2 a3);obtain⟨z0,z1,z2,z3⟩:=bR hF7;have y:=ak hF7;go_wp2
     exact bodyPost_ret (v:=.agg #[.int .i64 7,.string n,.int .i64 (aL s p),.int .i64 (aW s p)]) (by simp[results,Tryz.results111,go_sem,z0,z1,z2,z3]) rfl
      ⟨by rw[HF.out];rfl,H1,by rw[HF.out];exact(HA'.out _ _ _ _).1,(HA'.out _ _ _ _).2⟩
  ·have hu:u=0:=by simp at hw;exact hw.1
   have hfi:fi=false:=by simp at hw;exact hw.2
   subst hu hfi;have hsm:=hB1.small (N:=10000000) (by omega);have hsm2:=(hB1.small (N:=100000000) (by omega)).2
   have RW:=fun(w':World) (h':aN w' b 200 (du v bg') [] d' H1) (hsc:bN w' sp n s z) (htb:bm w' v tt fs more)=>xA b v tt sp g' j z fs more bg' hl' d' H1 n s t (aL s p) (aW s p) w' h' hn hsd hs hnl.2.1 hsc htb hspb hvs hn1 hsm.1 (by omega) hsm2
    (fun jj ww hjj hdd htt=>HIH.out g' (by omega) jj bg' d' H1 ww m1 hjj hl' hB1 (by omega) (by omega) hdd htt hn4)
   have HRW:=(show Hid _ from RW);have HSK':=(show Hid _ from HSK.out hw);have HL1':=(show Hid _ from HL1.out hw);have HL2':=(show Hid _ from HL2.out hw);clear RW HL1 HL2 HL3 HL4 HL6 HSK;simp only[jx]at HSK' HL1' HL2';generalize iO (b7 fs g') fs j z t ⟨n,aL s p,aW s p⟩ bg' d'=Q at *;obtain⟨⟨⟨r,pf,pl,pc⟩,bg2,d2⟩,z2⟩:=Q;simp only[gu]at HSK' HL1' HL2' HRW;have hz2':=HSK'.out.2;obtain⟨hl2,hme,m2,hB2,hm2⟩:=HSK'.out.1;simp only at hl2 hme hB2 hm2 hz2';clear HSK'
   cases hr:(r==0)
   ·have hr':(r != 0)=true:=by simp[bne,hr]
    have HF:Hid (aX fs f j 0 bg1 d=((r,⟨pf,pl,pc⟩),bg2,d2)):=hR.out.trans (HL2'.out hr);clear HL1' HL2';go_wp2_with fail;refine(cr t n _ (aL s p) (aW s p) _ _).mono ?_;rintro e w5 ⟨rfl,hk5⟩;have hI5:=hI.kept hk5 (by simp);have h55:=h5.kept hk5 (by simp);have hF5:=hk5.get hF (by simp);have D5:=D.still hk5;have T5:=T.still hk5;have TB5:=TB.kept hk5 (by simp);clear q0 q1 q2 q3 q4 q5 hI h5 hF D T TB hk5;obtain⟨q0,q1,q2,q3,q4,q5⟩:=hI5.cells;go_wp2_with fail;refine(HRW.out _ D5 h55 TB5).mono ?_;rintro e w6 ⟨rfl,H2,D6,M6,-⟩;have hF6:=M6.1.get hF5 (by rintro (e | e | e);omega;omega;exact hn3 e);have m3:=M6.fresh w.heap.size (ae hF5) hn3;have T7:=T5.word M6 (by omega);have hF6w:=ae hF6;have y6:=ak hF6;obtain⟨z0,z1,z2,z3⟩:=bR hF6;have HA':=(show Hid _ from fun a0 a1 a2 a3=>l4 D6 T7 (F:=w.heap.size) (Nat.le_refl _) (by omega) m3 a0 a1 a2 a3);clear q0 q1 q2 q3 q4 q5;go_wp2
    exact bodyPost_ret (v:=.agg #[.int .i64 r,.string pf,.int .i64 pl,.int .i64 pc]) (by simp[results,Tryz.results111,go_sem,hF6w,z0,z1,z2,z3]) rfl
     ⟨by rw[HF.out];rfl,H2,by rw[HF.out];exact(HA'.out _ _ _ _).1.still ((ab.refl [] _).alloc _),((HA'.out _ _ _ _).2.still ((ab.refl [] _).alloc _))⟩
   ·have hr':(r != 0)=false:=by simp[bne,hr]
    have HF:Hid (aX fs f j 0 bg1 d=aX fs g' j z2 bg2 d2):=hR.out.trans (HL1'.out hr);clear HL1' HL2';go_wp2_with fail;refine(cr t n _ (aL s p) (aW s p) _ _).mono ?_;rintro e w5 ⟨rfl,hk5⟩;have hI5:=hI.kept hk5 (by simp);have h55:=h5.kept hk5 (by simp);have hF5:=hk5.get hF (by simp);have D5:=D.still hk5;have T5:=T.still hk5;have TB5:=TB.kept hk5 (by simp);clear q0 q1 q2 q3 q4 q5 hI h5 hF D T TB hk5;obtain⟨q0,q1,q2,q3,q4,q5⟩:=hI5.cells;go_wp2_with fail;refine(HRW.out _ D5 h55 TB5).mono ?_;rintro e w6 ⟨rfl,H2,D6,M6,hs6⟩;have h6:=hs6 hr;have hF6:=M6.1.get hF5 (by rintro (e | e | e);omega;omega;exact hn3 e);have hI6:iq w6 w4.heap.size n s ⟨t,0,false,p⟩:=M6.1.get hI5 (by rintro (e | e | e);omega;omega;exact hn2 e);have TB6:bm w6 v tt fs more:=⟨M6.1.get TB5.1 (by rintro (e | e | e);exact hvb e;exact hvs e;exact hn4 e),TB5.2⟩;have e1:=M6.fresh sp (ae h55) hn1;have e2:=M6.fresh w4.heap.size (ae hI5) hn2;have e3:=M6.fresh w.heap.size (ae hF5) hn3;have e4:=M6.fresh v TB5.lt hn4;have T7:=T5.word M6 (by omega);have hF6w:=ae hF6;have hI6w:=ae hI6;have h6w:=ae h6;go_wp2_with fail;refine(qc sp z2 n s _ hs hz2'.2 (by exact h6.kept ((ab.refl [] _).alloc _) (by simp))).mono ?_;rintro e w8 ⟨rfl,h8,hk8⟩;have hI8:=(hI6.kept ((ab.refl [] _).alloc _) (by simp)).kept hk8 (by simp;omega);have hF8:=hk8.get (((ab.refl [] _).alloc _).get hF6 (by simp)) (by simp;omega);have D8:=(D6.still ((ab.refl [] _).alloc _)).kept hk8 (by simp;omega) (by intro k hk;simp;rintro rfl;exact e1 hk);have TB8:=(TB6.kept ((ab.refl [] _).alloc _) (by simp)).kept hk8 (by simp;omega);have T8:=(T7.still ((ab.refl [] _).alloc _)).beyond hk8 (by simp;omega);have yy:=ak hI8;have hI8w:=ae hI8;clear q0 q1 q2 q3 q4 q5;obtain⟨q0,q1,q2,q3,q4,q5⟩:=hI8.cells;simp only[ew];go_wp2
    go_roundg (s.size-z2)
    case measure=>omega
    case rel =>
     exact⟨z2,g',m2,bg2,d2,H2,hz2'.2,rfl,hl2,hB2,by omega,by omega,by omega,HF.out,fG h8 (by omega) _ _ _ _ _ _,nH hI8 _,rj hF8 (by omega) _ _ _ _ _ _,
      D8.kept (Bv _ _ _ _ _ _) (by simp;omega) (by intro k hk;simp;rintro rfl;exact e2 hk),TB8.kept (Bv _ _ _ _ _ _) (by simp;omega),T8.beyond (Bv _ _ _ _ _ _) (by simp;omega),e1,e2,e3,e4⟩
theorem xy(b v tt:Nat)(fs:Fs)(more:List Value)(hsz:∀j,j<fs.length->(aj fs j).size<=1024)(hvb:v≠b)(f:Nat):∀(j:Nat) (bg:List Bool) (d:Db) (H:Nat->Hd) (w:World) (m:Nat),j<fs.length->bg.length=4->lV d m->m+dx fs bg<=9000000->dx fs bg<=f->aN w b 200 (du v bg) [] d H->bm w v tt fs more->¬fm H v->iD b v fs f j bg d H w:=by
 induction f using Nat.strongRecOn with
 | _ f IH =>
  intro j bg d H w m hj hbg hB hm hf h ht hvi
  cases hb:bg.getD j true with
  | true=>exact un b v f j fs bg hbg d H w (by have:=ht.2;omega) h hb
  | false=>exact vk b v tt f fs more hsz hvb IH j bg d H w m hj hbg hB hm hf h ht hvi hb
structure gO(w:World)(l:List St)(H:Nat->Hd):Prop where
  own:aA w (H 6) (gB l H)
  syms:∀i s,l[i]?=some s->aA w (H (10+2*i)) (aD s.symbols)
  prfs:∀i s,l[i]?=some s->aA w (H (11+2*i)) (fE s.proof)
theorem aN.record{w:World}{b t:Nat}{pre post:List Value}{d:Db}{H:Nat->Hd}(h:aN w b t pre post d H):gO w d.sts H:=by
  refine⟨h.own 6,fun i s hs=>?_,fun i s hs=>?_⟩
  · have:=h.own (10+2*i)
    rw[show 10+2*i=2*i+10 by omega]at this ⊢;have e:aP d H (2*i+10)=aD s.symbols:=by simp[aP,inner,fR,hs]
    rw[e]at this;exact this
  · have:=h.own (11+2*i)
    rw[show 11+2*i=(2*i+1)+10 by omega]at this ⊢;have q:(2*i+1) % 2=1:=by omega
    have q2:(2*i+1) / 2=i:=by omega
    have e:aP d H ((2*i+1)+10)=fE s.proof:=by simp[aP,inner,qi,q,q2,hs]
    rw[e]at this;exact this
theorem gO.keptP{w w':World}{l:List St}{H:Nat->Hd}{P:Nat->Prop}(h:gO w l H)(k:dQ P w w')(hP:∀x,fm H x->¬P x):gO w' l H :=
  ⟨h.own.moved (fun x hx=>k.block x (h.own.lt hx) (hP x ⟨6,hx⟩)),fun i s hs=>(h.syms i s hs).moved (fun x hx=>k.block x ((h.syms i s hs).lt hx) (hP x ⟨_,hx⟩)),fun i s hs=>(h.prfs i s hs).moved (fun x hx=>k.block x ((h.prfs i s hs).lt hx) (hP x ⟨_,hx⟩))⟩
theorem gO.kept{w w':World}{l:List St}{H:Nat->Hd}{S:List Nat}(h:gO w l H)(k:ab S w w')(hP:∀x,fm H x->x∉S):gO w' l H :=
  h.keptP (k.toP (P:=(·∈S)) (fun _ hm _=>hm)) hP
theorem gO.still{w w':World}{l:List St}{H:Nat->Hd}(h:gO w l H)(k:ab [] w w'):gO w' l H:=h.kept k (by simp)
def ln:Nat->Hd:=fun _=>⟨none,0⟩
theorem qW(k:Nat):¬fm ln k:=by rintro ⟨i,h⟩;simp[ln,Hd.blk]at h
def Cu:List Bool:=[false,false,false,false]
theorem aN.begin{w:World}{b t:Nat}{pre:List Value}(h:w.heap[b]?=some (.cells (pre++(bU eF ln++[])).toArray t (0,0))):aN w b t pre [] eF ln:=by
  refine⟨h,?_,fun i j _=>Or.inl rfl,fun i e=>by simp[ln,Hd.blk]at e⟩;intro i
  match i with
  | 0=>exact World.ownsRow_nil _ _ _ _
  | 1=>exact World.ownsRow_nil _ _ _ _
  | 2=>exact World.ownsRow_nil _ _ _ _
  | 3=>exact World.ownsRow_nil _ _ _ _
  | 4=>exact World.ownsRow_nil _ _ _ _
  | 5=>exact World.ownsRow_nil _ _ _ _
  | 6=>exact World.ownsRow_nil _ _ _ _
  | 7=>exact World.ownsRow_nil _ _ _ _
  | 8=>exact World.ownsRow_nil _ _ _ _
  | 9=>exact World.ownsRow_nil _ _ _ _
  | n+10 =>
    have e:aP eF ln (n+10)=if n % 2=0 then aD [] else fE []:=by simp[aP,inner,eF,fR,qi]
    rw[e]
    split
    · exact World.ownsRow_nil _ _ _ _
    · exact World.ownsRow_nil _ _ _ _
theorem Bq(b t o:Nat)(pre post:List Value)(d:Db)(H:Nat->Hd)(w:World)(h:aN w b t pre post d H)(ho:pre.length=o) :
    Calls Tryz.prog 112 #[.pointer (some ⟨b,o,none⟩)] w fun e w'=>e=.returned (.agg #[.slice (H 6).ao d.sts.length (H 6).cap,.slice (H 7).ao d.rbl.length (H 7).cap])/\ab [] w w':=by
  obtain⟨q0,q1,q2,q3,q4,q5,q6,q7,q8,q9,q10,q11,q12⟩:=h.cells o ho;clear q0 q1 q2 q3 q4 q5 q8 q9 q10 q11 q12;have hbw:=h.lt;go_enter Tryz.func112,Tryz.ntmps112;go_wp2;exact bodyPost_ret (v:=.agg #[.slice (H 6).ao d.sts.length (H 6).cap,.slice (H 7).ao d.rbl.length (H 7).cap]) (by simp[results,Tryz.results112,go_sem]) rfl ⟨rfl,(ab.refl _ _).alloc _⟩
theorem xp(fs:Fs)(hsz:∀j,j<fs.length->(aj fs j).size<=1024)(bg:List Bool):dx fs bg<=4104:=by
  have h:∀j,Iy fs bg j<=1026:=by
    intro j;unfold Iy
    split
    · omega
    · rcases Nat.lt_or_ge j fs.length with h | h
      · have:=hsz j h;omega
      · have:(aj fs j).size=0:=by unfold aj;rw[List.getD_eq_getElem?_getD,List.getElem?_eq_none h];rfl
        omega
  have h0:=h 0;have h1:=h 1;have h2:=h 2;have h3:=h 3;unfold dx;omega
theorem xi{S:List Nat}{a w:World}{A B:Nat}(h:ab S a w)(hA:A∈S∨a.heap.size<=A)(hB:B∈S∨a.heap.size<=B)(u0 u1 v0 v1 v2 v3:Value) :
    ab S a ((((((w.setCell ⟨A,0,none⟩ u0).setCell ⟨A,1,none⟩ u1).setCell ⟨B,0,none⟩ v0).setCell ⟨B,1,none⟩ v1).setCell ⟨B,2,none⟩ v2).setCell ⟨B,3,none⟩ v3) :=
  (((((h.setCell hA _).setCell hA _).setCell hB _).setCell hB _).setCell hB _).setCell hB _
def cO(fs:Fs)(root:Nat):Fy:=b7 fs 5000 root Cu eF
set_option maxRecDepth 100000 in
theorem GV(v tt k0:Nat)(fs:Fs)(more:List Value)(w:World)
    (ht:bm w v tt fs more) (hk0:k0<fs.length) (hsz:∀j,j<fs.length->(aj fs j).size<=1024) :
    Calls Tryz.prog 79 #[.pointer (some ⟨v,0,none⟩),.int .i64 k0] w fun e w' =>
      (if((cO fs k0).1.1==0)=true then ∃H,e=.returned (.tuple #[.agg #[.slice (H 6).ao (cO fs k0).2.2.sts.length (H 6).cap,.slice (H 7).ao (cO fs k0).2.2.rbl.length (H 7).cap],gu cJ])/\gO w' (cO fs k0).2.2.sts H/\(∀k,fm H k->w.heap.size<=k)
       else e=.returned (.tuple #[.agg #[.slice none 0 0,.slice none 0 0],gu (cO fs k0).1]))/\ab [] w w':=by
  have hvw:=ht.lt
  obtain⟨W,hW⟩:∃W,W=((w.alloc (.cells #[.slice none 0 0,.slice none 0 0] 76)).alloc (.cells #[.int .i64 0,.string ⟨#[]⟩,.int .i64 0,.int .i64 0] 87)).alloc (.cells #[.pointer (some ⟨v,0,none⟩),.bool false,.bool false,.bool false,.bool false,
    .slice none 0 0,.slice none 0 0,.slice none 0 0,.slice none 0 0,.slice none 0 0,.slice none 0 0,.slice none 0 0,.slice none 0 0,.int .i64 0,.string ⟨#[]⟩,.slice none 0 0,.bool false,.slice none 0 0] 200):=⟨_,rfl⟩
  have hK:ab [] w W:=by rw[hW];exact(((ab.refl [] _).alloc _).alloc _).alloc _
  have hA:W.heap[w.heap.size]?=some (.cells #[.slice none 0 0,.slice none 0 0] 76 (0,0)):=by
    rw[hW];exact(((ab.refl [] _).alloc _).alloc _).get (heap_alloc_new _ _) (by simp)
  have hF:W.heap[w.heap.size+1]?=some (.cells a9 87 (0,0)):=by
    rw[hW];have e:(w.alloc (.cells #[.slice none 0 0,.slice none 0 0] 76)).heap.size=w.heap.size+1:=by simp
    rw[<-e];exact((ab.refl [] _).alloc _).get (heap_alloc_new _ _) (by simp)
  have hD:aN W (w.heap.size+2) 200 (du v Cu) [] eF ln:=by
    refine aN.begin ?_;rw[hW];have e:((w.alloc (.cells #[.slice none 0 0,.slice none 0 0] 76)).alloc (.cells #[.int .i64 0,.string ⟨#[]⟩,.int .i64 0,.int .i64 0] 87)).heap.size=w.heap.size+2:=by simp
    rw[<-e];exact heap_alloc_new _ _
  have hT:bm W v tt fs more:=ht.kept hK (by simp);have HW:=(show Hid _ from hW.symm);have RF:=xy (w.heap.size+2) v tt fs more hsz (by omega) 5000 k0 Cu eF ln W 0 hk0 rfl lV.empty (by have:=xp fs hsz Cu;omega) (by have:=xp fs hsz Cu;omega) hD hT (qW _);unfold iD at RF;have HRF:=(show Hid _ from RF);clear hW RF;have HKN:Hid ((b7 fs 5000 k0 Cu eF).2.1.length=4):=((Gn fs 5000).2 k0 Cu eF 0 rfl lV.empty).1;have ER:Hid (cO fs k0=b7 fs 5000 k0 Cu eF):=rfl;rw[ER.out];clear ER;generalize b7 fs 5000 k0 Cu eF=R at *;obtain⟨⟨r,pf,pl,pc⟩,bg',d'⟩:=R;simp only[gu]at HRF HKN ⊢;go_enter Tryz.func79,Tryz.ntmps79
  go_upto_region 2 with fail
  rw[HW.out];go_wp2_with fail;refine Calls.mono HRF.out ?_;rintro e w2 ⟨rfl,H2,D2,T2⟩;have hA2:=T2.1.get hA (by rintro (e | e);omega;exact qW _ e);have hF2:=T2.1.get hF (by rintro (e | e);omega;exact qW _ e);have hz2:=T2.1.size;have hWs:=D2.lt
  have HNI:Hid (∀k,fm H2 k->w.heap.size<=k):=fun k hk=>by
    rcases T2.2 k hk with h | h
    · exact absurd h (qW _)
    · have:=hK.size;omega
  have HN2:Hid (∀k,fm H2 k->k≠w.heap.size/\k≠w.heap.size+1/\k≠w.heap.size+2):=fun k hk=>by
    have hz:=ae hF;have hz3:=hD.lt
    rcases T2.2 k hk with h | h
    · exact absurd h (qW _)
    · omega
  have K2:Hid (ab [] w w2):=⟨T2.1.os.trans hK.os,T2.1.tape.trans hK.tape,T2.1.output.trans hK.output,Nat.le_trans hK.size T2.1.size,fun k hk _=>(T2.1.block k (Nat.lt_of_lt_of_le hk hK.size) (by rintro (e | e);omega;exact qW _ e)).trans (hK.block k hk (by simp))⟩;have a0:w2.cell? ⟨w.heap.size,0,none⟩=some (.slice none 0 0):=by rw[aa hA2];rfl
  have a1:w2.cell? ⟨w.heap.size,1,none⟩=some (.slice none 0 0):=by rw[aa hA2];rfl
  obtain⟨z0,z1,z2,z3⟩:=bR hF2;have ya:=ak hA2;have yf:=ak hF2;have hA2w:=ae hA2;have hF2w:=ae hF2
  cases hr:(r==0)
  · have hr':(r != 0)=true:=by simp[bne,hr]
    go_wp2_with fail
    go_region
    all_goals go_wp2
    all_goals exact bodyPost_ret (v:=.tuple #[.agg #[.slice none 0 0,.slice none 0 0],.agg #[.int .i64 r,.string pf,.int .i64 pl,.int .i64 pc]]) (by simp[results,Tryz.results79,go_sem,a0,a1,z0,z1,z2,z3,hA2w,hF2w]) rfl ⟨rfl,((xi K2.out (Or.inr (Nat.le_refl _)) (Or.inr (Nat.le_succ _)) _ _ _ _ _ _).alloc _).drew⟩
  · have hr':(r != 0)=false:=by simp[bne,hr]
    go_wp2_with fail;refine(Bq (w.heap.size+2) 200 5 (du v bg') [] d' H2 _ (by exact D2.still ((ab.refl [] _).alloc _)) (ik v bg' HKN.out)).mono ?_;rintro e w4 ⟨rfl,hk4⟩;have k24:ab [] w2 w4:=((ab.refl [] _).alloc _).trans hk4;have hA4:=k24.get hA2 (by simp);have hF4:=k24.get hF2 (by simp);have K4:Hid (ab [] w w4):=K2.out.trans k24;have S4:Hid (gO w4 d'.sts H2):=D2.record.still k24;clear a0 a1 z0 z1 z2 z3 ya yf hk4;have a0:w4.cell? ⟨w.heap.size,0,none⟩=some (.slice none 0 0):=by rw[aa hA4];rfl
    have a1:w4.cell? ⟨w.heap.size,1,none⟩=some (.slice none 0 0):=by rw[aa hA4];rfl
    obtain⟨z0,z1,z2,z3⟩:=bR hF4;have ya:=ak hA4;have yf:=ak hF4;go_wp2
    exact bodyPost_ret (v:=.tuple #[.agg #[.slice (H2 6).ao d'.sts.length (H2 6).cap,.slice (H2 7).ao d'.rbl.length (H2 7).cap],.agg #[.int .i64 0,.string ⟨#[]⟩,.int .i64 0,.int .i64 0]]) (by simp[results,Tryz.results79,go_sem,a0,a1,z0,z1,z2,z3]) rfl
      ⟨⟨H2,rfl,S4.out.kept (xi (ab.refl [w.heap.size,w.heap.size+1] w4) (Or.inl (by simp)) (Or.inl (by simp)) _ _ _ _ _ _) (fun k hk=>by have:=HN2.out k hk;simp;omega),HNI.out⟩,
        xi K4.out (Or.inr (Nat.le_refl _)) (Or.inr (Nat.le_succ _)) _ _ _ _ _ _⟩
structure eu(w:World)(b o:Nat)(l:List St)(H:Nat->Hd):Prop where
 cell:∃arr t,w.heap[b]?=some (.cells arr t (0,0))/\arr[o]?=some (.slice (H 6).ao l.length (H 6).cap)
 sts:gO w l H
theorem eu.at{w:World}{b o:Nat}{l:List St}{H:Nat->Hd}(h:eu w b o l H):w.cell? ⟨b,o,none⟩=some (.slice (H 6).ao l.length (H 6).cap):=by
 obtain⟨arr,t,h1,h2⟩:=h.cell;rw[aa h1];exact h2
theorem eu.lt{w:World}{b o:Nat}{l:List St}{H:Nat->Hd}(h:eu w b o l H):b<w.heap.size:=by
 obtain⟨arr,t,h1,h2⟩:=h.cell;exact ae h1
theorem eu.kept{w w':World}{b o:Nat}{l:List St}{H:Nat->Hd}{S:List Nat}(h:eu w b o l H)(k:ab S w w')(hb:b∉S)(hP:∀x,fm H x->x∉S):eu w' b o l H:=by
 obtain⟨arr,t,h1,h2⟩:=h.cell;exact⟨⟨arr,t,k.get h1 hb,h2⟩,h.sts.kept k hP⟩
theorem eu.still{w w':World}{b o:Nat}{l:List St}{H:Nat->Hd}(h:eu w b o l H)(k:ab [] w w'):eu w' b o l H:=h.kept k (by simp) (by simp)
theorem gO.stmt{w:World}{l:List St}{H:Nat->Hd}(h:gO w l H)(n:Nat)(hn:n<l.length) :
  ∃g,(H 6).ao=some ⟨g,0,none⟩/\l.length<=(H 6).cap/\(H 6).cap<=9223372036854775807/\w.cell? ⟨g,n*8,none⟩=some (.int .i64 l[n].kind)/\w.cell? ⟨g,n*8+1,none⟩=some (.string l[n].label)/\w.cell? ⟨g,n*8+2,none⟩=some (.slice (H (10+2*n)).ao l[n].symbols.length (H (10+2*n)).cap) /\
  w.cell? ⟨g,n*8+3,none⟩=some (.slice (H (11+2*n)).ao l[n].proof.length (H (11+2*n)).cap)/\w.cell? ⟨g,n*8+4,none⟩=some (.string l[n].fin.file)/\w.cell? ⟨g,n*8+5,none⟩=some (.int .i64 l[n].fin.line) /\
  w.cell? ⟨g,n*8+6,none⟩=some (.int .i64 l[n].fin.col)/\w.cell? ⟨g,n*8+7,none⟩=some (.int .i64 l[n].til):=by
 rcases h.own.ways with ⟨_,h0,_⟩ | ⟨g,cur,e1,e2,e3,e4,-⟩
 ·have:l.length=0:=h0
  omega
 ·have c:=fun j (hj:j<8) v (hv:(E1 l[n] (H (10+2*n)) (H (11+2*n)))[j]?=some v)=>h.own.cell e1 (n*8+j) v ((C3 l H n hn j hj).trans hv)
  exact⟨g,e1,e3,by unfold maxLen at e4;exact e4,c 0 (by omega) _ rfl,c 1 (by omega) _ rfl,c 2 (by omega) _ rfl,c 3 (by omega) _ rfl,c 4 (by omega) _ rfl,c 5 (by omega) _ rfl,c 6 (by omega) _ rfl,c 7 (by omega) _ rfl⟩
theorem dR(b o:Nat)(l:List St)(H:Nat->Hd)(w:World)(h:eu w b o l H) :
  Calls Tryz.prog 80 #[.pointer (some ⟨b,o,none⟩)] w fun e w'=>e=.returned (.int .i64 l.length)/\w'=w:=by
 have c:=h.at;go_enter Tryz.func80,Tryz.ntmps80;go_wp2;go_ret;exact⟨rfl,rfl⟩
def eI(s:St)(a b:Hd):Value :=
 .agg #[.int .i64 s.kind,.string s.label,.slice a.ao s.symbols.length a.cap,.slice b.ao s.proof.length b.cap,.string s.fin.file,.int .i64 s.fin.line,.int .i64 s.fin.col,.int .i64 s.til]
theorem bb(b o k:Nat)(l:List St)(H:Nat->Hd)(w:World)(h:eu w b o l H)(hk:k<l.length) :
  Calls Tryz.prog 97 #[.pointer (some ⟨b,o,none⟩),.int .i64 k] w fun e w'=>e=.returned (eI l[k] (H (10+2*k)) (H (11+2*k)))/\ab [] w w':=by
 have c:=h.at;have hbw:=h.lt;obtain⟨g,e1,e2,e3,c0,c1,c2,c3,c4,c5,c6,c7⟩:=h.sts.stmt k hk;have hgw:=h.sts.own.lt (k:=g) (by unfold Hd.blk;rw[e1];rfl);rw[e1]at c;unfold eI;clear h;go_enter Tryz.func97,Tryz.ntmps97;go_wp2
 exact bodyPost_ret (v:=.agg #[.int .i64 l[k].kind,.string l[k].label,.slice (H (10+2*k)).ao l[k].symbols.length (H (10+2*k)).cap,.slice (H (11+2*k)).ao l[k].proof.length (H (11+2*k)).cap,.string l[k].fin.file,.int .i64 l[k].fin.line,.int .i64 l[k].fin.col,.int .i64 l[k].til])
  (by simp[results,Tryz.results97,go_sem]) rfl ⟨rfl,(ab.refl _ _).alloc _⟩
def io(l:List St)(n a:Nat):Bool:=match l[n]? with | some s=>decide (n<a)&&(s.til==0||decide (a<s.til)) | none=>false
theorem I5(l:List St)(n a:Nat)(h:n<l.length):io l n a=(decide (n<a)&&(l[n].til==0||decide (a<l[n].til))):=by
 unfold io;rw[List.getElem?_eq_getElem h]
theorem fA(b o k a:Nat)(l:List St)(H:Nat->Hd)(w:World)(h:eu w b o l H)(hk:k<l.length) :
  Calls Tryz.prog 187 #[.pointer (some ⟨b,o,none⟩),.int .i64 k,.int .i64 a] w fun e w'=>e=.returned (.bool (io l k a))/\w'=w:=by
 have c:=h.at;obtain⟨g,e1,e2,e3,c0,c1,c2,c3,c4,c5,c6,c7⟩:=h.sts.stmt k hk;clear c0 c1 c2 c3 c4 c5 c6;rw[e1]at c;have HE:=(show Hid _ from I5 l k a hk);generalize l[k].til=t at *;clear h
 by_cases h1:k<a
 ·cases h2:((t:Int)==0)
  ·have h2':(t==0)=false:=by cases t <;> simp at h2 ⊢
   have HT:Hid (io l k a=decide (a<t)):=by show _=_;rw[HE.out,h2'];simp[h1]
   clear HE;go_enter Tryz.func187,Tryz.ntmps187;go_wp2;go_ret;exact⟨aB (by rw[HT.out]),rfl⟩
  ·have h2':(t==0)=true:=by cases t <;> simp at h2 ⊢ <;> omega
   have HT:Hid (io l k a=true):=by show _=_;rw[HE.out,h2'];simp[h1]
   clear HE;go_enter Tryz.func187,Tryz.ntmps187;go_wp2;go_ret;exact⟨aB (by rw[HT.out]),rfl⟩
 ·have HT:Hid (io l k a=false):=by show _=_;rw[HE.out];simp[h1]
  clear HE;go_enter Tryz.func187,Tryz.ntmps187;go_wp2;go_ret;exact⟨aB (by rw[HT.out]),rfl⟩
def mK(l:List St)(lab:ByteArray)(a n:Nat):Bool:=match l[n]? with | some s=>(s.label.toList==lab.toList) && !(s.kind==1)&&io l n a | none=>false
def lg(l:List St)(lab:ByteArray)(a:Nat):Option Nat:=(List.range l.length).find? (mK l lab a)
def nK:Option Nat->Int
 | some n=>n
 | none=>-1
theorem GF(l:List St)(lab:ByteArray)(a n:Nat)(h:n<l.length):mK l lab a n=((l[n].label.toList==lab.toList) && !(l[n].kind==1)&&io l n a):=by
 unfold mK;rw[List.getElem?_eq_getElem h]
theorem oh{p:Nat->Bool}{n k:Nat}(hk:k<n)(hp:p k=true)(hall:∀i,i<k->p i=false):(List.range n).find? p=some k :=
 List.find?_range_eq_some.2 ⟨hp,by simpa using hk,fun j hj=>by simp[hall j hj]⟩
theorem mR{p:Nat->Bool}{n:Nat}(hall:∀i,i<n->p i=false):(List.range n).find? p=none :=
 List.find?_eq_none.2 (fun i hi=>by simp[hall i (by simpa using hi)])
theorem fX(b o a:Nat)(lab:ByteArray)(l:List St)(H:Nat->Hd)(w:World)(h:eu w b o l H)(hl:l.length<=1073741824) :
  Calls Tryz.prog 185 #[.pointer (some ⟨b,o,none⟩),.string lab,.int .i64 a] w fun e w'=>e=.returned (.int .i64 (nK (lg l lab a)))/\w'=w:=by
 have c:=h.at;go_enter Tryz.func185,Tryz.ntmps185;go_wp2
 go_loopg [7] l.length (fun g i wr=>∃k:Nat,k<=l.length/\g=l.length-k/\i=.int .i64 k/\Hid (∀i,i<k->mK l lab a i=false)/\wr=w)
 case atStart=>exact⟨0,by omega,by omega,rfl,fun i hi=>by omega,rfl⟩
 case round =>
  obtain⟨k,hk,hg,rfl,hall,rfl⟩:=hrel
  by_cases hlt:k<l.length
  ·obtain⟨g,e1,e2,e3,c0,c1,c2,c3,c4,c5,c6,c7⟩:=h.sts.stmt k hlt
   clear c2 c3 c4 c5 c6 c7;rw[e1]at c;have HN:=(show Hid _ from GF l lab a k hlt);have HH:Hid (eu wr b o l H):=h;generalize l[k].label=lb at *;generalize l[k].kind=kd at *
   have next:Hid (mK l lab a k=false->∀i,i<k+1->mK l lab a i=false):=by
    intro hf i hi
    by_cases e:i=k
    ·subst e;exact hf
    ·exact hall.out i (by omega)
   cases hb:(lb.toList==lab.toList)
   ·have HF:Hid (mK l lab a k=false):=by show _=_;rw[HN.out,hb];simp
    clear HN h;go_wp2
    go_roundg (l.length-(k+1))
    case measure=>omega
    case rel=>exact⟨k+1,by omega,rfl,by go_num,next.out HF.out,rfl⟩
   ·cases hd:(kd==1)
    ·have hd':(kd != 1)=true:=by simp[bne,hd]
     cases hh:io l k a
     ·have HF:Hid (mK l lab a k=false):=by show _=_;rw[HN.out,hh];simp
      clear HN h;go_wp2_with (go_at_call 187;refine(fA b o k a l H _ HH.out hlt).mono ?_;rintro e w1 ⟨rfl,rfl⟩)
      go_roundg (l.length-(k+1))
      case measure=>omega
      case rel=>exact⟨k+1,by omega,rfl,by go_num,next.out HF.out,rfl⟩
     ·have HF:Hid (lg l lab a=some k):=oh hlt (by rw[HN.out,hb,hd,hh];rfl) hall.out
      clear HN h;go_wp2_with (go_at_call 187;refine(fA b o k a l H _ HH.out hlt).mono ?_;rintro e w1 ⟨rfl,rfl⟩);go_ret;exact⟨am (by rw[HF.out];rfl),rfl⟩
    ·have hd':(kd != 1)=false:=by simp[bne,hd]
     have HF:Hid (mK l lab a k=false):=by show _=_;rw[HN.out,hd];simp
     clear HN h;go_wp2
     go_roundg (l.length-(k+1))
     case measure=>omega
     case rel=>exact⟨k+1,by omega,rfl,by go_num,next.out HF.out,rfl⟩
  ·have HF:Hid (lg l lab a=none):=mR (fun i hi=>hall.out i (by omega))
   clear h;go_wp2;go_ret;exact⟨am (by rw[HF.out];rfl),rfl⟩
def jh(w:World)(h:Hd)(l:List ByteArray):Prop :=
 l=[]∨∃g off cur t,h.ao=some ⟨g,off,none⟩/\w.heap[g]?=some (.cells cur t (0,0))/\(∀j x,l[j]?=some x->cur[off+j]?=some (.string x))/\l.length<=h.cap/\h.cap<=9223372036854775807
theorem aA.view{w:World}{h:Hd}{l:List ByteArray}(o:aA w h (aD l)):jh w h l:=by
 rcases o.ways with ⟨_,h0,_⟩ | ⟨g,cur,e1,e2,e3,e4,e5,e6⟩
 ·exact Or.inl (List.eq_nil_of_length_eq_zero h0)
 ·refine Or.inr ⟨g,0,cur,_,e1,e2,?_,e3,by unfold maxLen at e4;exact e4⟩
  intro j x hj;have hjl:j<l.length:=(List.getElem?_eq_some_iff.1 hj).1;have e6':cur.toList.take (l.length*1)=dO l:=e6;have:(dO l)[j]?=some (.string x):=by simp[dO,hj]
  rw[<-e6',List.getElem?_take]at this;rw[Nat.zero_add];simp at this;exact this.2
theorem jh.kept{w w':World}{h:Hd}{l:List ByteArray}{S:List Nat}(v:jh w h l)(k:ab S w w')(hS:∀x,h.blk=some x->x∉S):jh w' h l:=by
 rcases v with v | ⟨g,off,cur,t,e1,e2,e3⟩
 ·exact Or.inl v
 ·exact Or.inr ⟨g,off,cur,t,e1,k.get e2 (hS g (by unfold Hd.blk;rw[e1];rfl)),e3⟩
theorem jh.still{w w':World}{h:Hd}{l:List ByteArray}(v:jh w h l)(k:ab [] w w'):jh w' h l:=v.kept k (by simp)
theorem oi{a b:ByteArray}(h:a=b):Ending.returned (.string a)=.returned (.string b):=by rw[h]
theorem Gg(hd:Hd)(l:List ByteArray)(x:ByteArray)(w:World)(hv:jh w hd l)(hl:l.length<=1073741824) :
  Calls Tryz.prog 218 #[.slice hd.ao l.length hd.cap,.string x] w fun e w'=>e=.returned (.bool (aI l x))/\w'=w:=by
 obtain⟨ao,cap⟩:=hd
 rcases hv with rfl | ⟨g,off,cur,t,e1,e2,e3,e4,e5⟩
 ·clear hl
  go_enter Tryz.func218,Tryz.ntmps218;go_wp2;refine wp_loop_rounds 1 ?_;rw[rounds_succ];go_wp2;go_ret;exact⟨rfl,rfl⟩
 ·simp only at e1
  subst e1;go_enter Tryz.func218,Tryz.ntmps218;go_wp2
  go_loopg [5] l.length (fun g i wr=>∃k:Nat,k<=l.length/\g=l.length-k/\i=.int .i64 k/\Hid (aI l x=aI (l.drop k) x)/\wr=w)
  case atStart=>exact⟨0,by omega,by omega,rfl,rfl,rfl⟩
  case round =>
   obtain⟨k,hk,hg,rfl,hs,rfl⟩:=hrel
   by_cases hlt:k<l.length
   ·have c1:wr.cell? ⟨g,off+k,none⟩=some (.string l[k]):=(aa e2 (off+k)).trans (e3 k l[k] (List.getElem?_eq_getElem hlt))
    cases hb:((l[k]).toList==x.toList)
    ·have HM:Hid (aI l x=aI (l.drop (k+1)) x):=yP l x k hlt hs.out hb
     clear hs e3;go_wp2
     go_roundg (l.length-(k+1))
     case measure=>omega
     case rel=>exact⟨k+1,by omega,rfl,by go_num,HM,rfl⟩
    ·have HM:Hid (aI l x=true):=CG l x k hlt hs.out hb
     clear hs e3;go_wp2;go_ret;exact⟨aB HM.out.symm,rfl⟩
   ·have HM:Hid (aI l x=false):=yQ l x k hlt hs.out
    clear hs e3;go_wp2;go_ret;exact⟨aB HM.out.symm,rfl⟩
def gj(s:St):ByteArray:=s.symbols.getD 0 ⟨#[]⟩
def a8(s:St):ByteArray:=if(s.kind==2)=true/\2<=s.symbols.length then s.symbols.getD 1 ⟨#[]⟩ else⟨#[]⟩
theorem sG(l:List ByteArray)(k:Nat)(h:k<l.length):l.getD k ⟨#[]⟩=l[k]:=by rw[List.getD_eq_getElem?_getD,List.getElem?_eq_getElem h];rfl
theorem xJ(s:St)(ha hb:Hd)(w:World)(hv:jh w ha s.symbols)(hl:s.symbols.length<=1073741824) :
  Calls Tryz.prog 191 #[eI s ha hb] w fun e w'=>e=.returned (.string (gj s))/\ab [] w w':=by
 unfold eI;obtain⟨ao,cap⟩:=ha
 rcases hv with e0 | ⟨g,off,cur,t,e1,e2,e3,e4,e5⟩
 ·have HT:Hid (gj s=⟨#[]⟩):=by show _=_;unfold gj;rw[e0];rfl
  rw[e0];simp only[List.length_nil];clear hl e0;go_enter Tryz.func191,Tryz.ntmps191;go_wp2;go_ret;exact⟨oi HT.out.symm,(ab.refl _ _).alloc _⟩
 ·simp only at e1
  subst e1
  by_cases hz:s.symbols.length=0
  ·have hz1:((s.symbols.length:Int)==0)=true:=by simp[hz]
   have HT:Hid (gj s=⟨#[]⟩):=by show _=_;unfold gj;rw[List.eq_nil_of_length_eq_zero hz];rfl
   clear hz;go_enter Tryz.func191,Tryz.ntmps191;go_wp2;go_ret;exact⟨oi HT.out.symm,(ab.refl _ _).alloc _⟩
  ·have hz1:((s.symbols.length:Int)==0)=false:=beq_eq_false_iff_ne.2 (by omega)
   have hz2:0<s.symbols.length:=by omega
   have HT:Hid (gj s=s.symbols[0]):=sG _ _ hz2;have c1:w.cell? ⟨g,off,none⟩=some (.string s.symbols[0]):=(aa e2 off).trans (e3 0 _ (List.getElem?_eq_getElem hz2));have hgw:=ae e2;clear e3 hz;go_enter Tryz.func191,Tryz.ntmps191;go_wp2;go_ret;exact⟨oi HT.out.symm,(ab.refl _ _).alloc _⟩
theorem mZ(s:St)(ha hb:Hd)(w:World)(hv:jh w ha s.symbols)(hl:s.symbols.length<=1073741824) :
  Calls Tryz.prog 189 #[eI s ha hb] w fun e w'=>e=.returned (.string (a8 s))/\ab [] w w':=by
 unfold eI
 cases k2:(s.kind==2)
 ·have k2':(s.kind != 2)=true:=by simp[bne,k2]
  have HT:Hid (a8 s=⟨#[]⟩):=by show _=_;unfold a8;rw[k2];simp
  go_enter Tryz.func189,Tryz.ntmps189;go_wp2;go_ret;exact⟨oi HT.out.symm,(ab.refl _ _).alloc _⟩
 ·have k2':(s.kind != 2)=false:=by simp[bne,k2]
  by_cases hz:s.symbols.length<2
  ·have HT:Hid (a8 s=⟨#[]⟩):=by show _=_;unfold a8;rw[if_neg (by omega)]
   go_enter Tryz.func189,Tryz.ntmps189;go_wp2;go_ret;exact⟨oi HT.out.symm,(ab.refl _ _).alloc _⟩
  ·have hz2:1<s.symbols.length:=by omega
   obtain⟨ao,cap⟩:=ha
   rcases hv with e0 | ⟨g,off,cur,t,e1,e2,e3,e4,e5⟩
   ·rw[e0]at hz2;simp at hz2
   ·simp only at e1
    subst e1;have HT:Hid (a8 s=s.symbols[1]):=by show _=_;unfold a8;rw[if_pos ⟨k2,by omega⟩];exact sG _ _ hz2
    have c1:w.cell? ⟨g,off+1,none⟩=some (.string s.symbols[1]):=(aa e2 (off+1)).trans (e3 1 _ (List.getElem?_eq_getElem hz2));have hgw:=ae e2;clear e3;go_enter Tryz.func189,Tryz.ntmps189;go_wp2;go_ret;exact⟨oi HT.out.symm,(ab.refl _ _).alloc _⟩
def rP(s:St)(syms:List ByteArray):Bool:=if(s.kind==2)=true then aI syms (a8 s) else(s.kind==3)
theorem sq(s:St)(ha hb hd:Hd)(l:List ByteArray)(w:World)(hv:jh w ha s.symbols)(hvl:jh w hd l)(hl:s.symbols.length<=1073741824)(hl2:l.length<=1073741824) :
  Calls Tryz.prog 188 #[eI s ha hb,.slice hd.ao l.length hd.cap] w fun e w'=>e=.returned (.bool (rP s l))/\ab [] w w':=by
 have VA:=fun(w':World) (hv':jh w' ha s.symbols)=>mZ s ha hb w' hv' hl
 have HVA:=(show Hid _ from VA);unfold eI at HVA ⊢;clear VA
 cases k2:(s.kind==2)
 ·have HT:Hid (rP s l=(s.kind==3)):=by show _=_;unfold rP;rw[k2];simp
  go_enter Tryz.func188,Tryz.ntmps188;go_wp2;go_ret;exact⟨aB (by rw[HT.out]),(ab.refl _ _).alloc _⟩
 ·have HT:Hid (rP s l=aI l (a8 s)):=by show _=_;unfold rP;rw[k2];simp
  go_enter Tryz.func188,Tryz.ntmps188;go_wp2_with fail;refine(HVA.out _ (by exact hv.still ((ab.refl [] _).alloc _))).mono ?_;rintro e w2 ⟨rfl,hk2⟩;have hk:=((ab.refl [] w).alloc _).trans hk2;go_wp2_with fail;refine(Gg hd l _ _ (by exact hvl.still hk) hl2).mono ?_;rintro e w3 ⟨rfl,rfl⟩;go_wp2;go_ret;exact⟨aB (by rw[HT.out]),hk⟩
end Go.Proofs.YtpddjjabfbfifaaGreat

import Derived.Deep.RegionHeld3
import Derived.Laws.OwnMore
import Derived.BigQuiet
import Derived.Test.YtpddjjabfbfifaaGreatG32
namespace Go.Proofs.YtpddjjabfbfifaaGreat
open Go.RowKit
set_option maxHeartbeats 40000000
theorem C7{L:List (Option Nat×Option Nat×Fs)}{k:Nat}{a c:Option Nat}{fs fs':Fs}(hk:L[k]?=some (a,c,fs))(f:Option Nat×Option Nat×Fs->Option Nat×Fs)(hf:xp (f (a,c,fs'))=xp (f (a,c,fs))):fP ((L.set k (a,c,fs')).map f)=fP (L.map f):=by
 unfold fP
 have e:((L.set k (a,c,fs')).map f).map xp=(L.map f).map xp:=by
  rw[List.map_set,List.map_set,hf]
  apply List.ext_getElem?
  intro j;rw[List.getElem?_set]
  by_cases ej:k=j
  ·subst ej
   rw[if_pos rfl,List.getElem?_map,List.getElem?_map,hk];have:=(List.getElem?_eq_some_iff.1 hk).1;simp[this]
  ·rw[if_neg ej]
 rw[e,List.length_map,List.length_set,List.length_map]
theorem E7{fs:Fs}(h:kt fs)(i:Nat){n d:ByteArray}(hn:n.size<=1073741824)(hd:d.size<=1073741824):kt (fs.set i (n,d)):=by
 intro j;have:=h j;unfold aC aj at *;rw[List.getD_eq_getElem?_getD]at *;rw[List.getElem?_set]
 by_cases e:i=j
 ·subst e
  rw[if_pos rfl]
  split
  ·exact⟨hn,hd⟩
  ·exact⟨by show(0:Nat)<=_;omega,by show(0:Nat)<=_;omega⟩
 ·rw[if_neg e];exact this
theorem bM.wrote{w w4:World}{b N k:Nat}{a c:Option Nat}{fs fs':Fs}{I:Nat×Nat->It}{M:Mc}(h:bM w b I M N)(hk:M.L[k]?=some (a,c,fs))(hl:fs'.length=fs.length)(hf:kt fs')(s4:nD w4 (fe (fe I (8,k) (rL a fs')) (9,k) (rL c fs'))):∃I' M',bM w4 b I' M' (N+1)/\I' (10,0)=I (10,0):=by
 refine⟨_,{ M with L:=M.L.set k (a,c,fs') },⟨s4,?_,?_,?_,?_,?_,?_,?_,?_,?_,?_,?_⟩,?_⟩
 ·rw[aq _ _ (bA (by decide)),aq _ _ (bA (by decide)),h.w0];unfold Mc.cells;rw[List.length_set]
 ·simp only[fe];exact h.x
 ·simp only[fe];exact h.m
 ·simp only[fe];exact h.r
 ·rw[aq _ _ (bA (by decide)),aq _ _ (bA (by decide)),h.ls]
  congr 1
  exact(C7 hk (fun l=>(l.1,l.2.2)) (by simp only[xp,hl])).symm
 ·rw[aq _ _ (bA (by decide)),aq _ _ (bA (by decide)),h.lw]
  congr 1
  exact(C7 hk (fun l=>(l.2.1,l.2.2)) (by simp only[xp,hl])).symm
 ·intro i x m fs hi
  simp only[fe];exact h.v i x m fs hi
 ·intro i x m fs2 hi
  replace hi:(M.L.set k (a,c,fs'))[i]?=some (x,m,fs2):=hi;rw[List.getElem?_set]at hi;rw[aq _ _ (bA (by decide))]
  by_cases e:k=i
  ·subst e
   rw[if_pos rfl,if_pos (List.getElem?_eq_some_iff.1 hk).1]at hi
   cases hi
   obtain⟨-,-,-,h4⟩:=h.l k a c fs hk;rw[bS,bS];exact⟨rfl,rfl,hf,by omega⟩
  ·rw[if_neg e]at hi
   rw[aq _ _ (tC (Ne.symm e)),aq _ _ (tC (Ne.symm e)),aq _ _ (bA (by decide))];exact h.more.l i x m fs2 hi
 ·exact h.fit
 ·obtain⟨h1,h2,h3⟩:=h.more.len
  exact⟨h1,h2,by show(M.L.set k (a,c,fs')).length<=_;rw[List.length_set];exact h3⟩
 ·exact h.rng
 ·simp only[fe];rfl
theorem gK.wrote{w:World}{ba i:Nat}{fs:Fs}(h:gK w (some ba) fs)(hi:i<fs.length)(n d:ByteArray):gK ((w.setCell ⟨ba,i*2,none⟩ (.string n)).setCell ⟨ba,i*2+1,none⟩ (.string d)) (some ba) (fs.set i (n,d))/\ab [ba] w ((w.setCell ⟨ba,i*2,none⟩ (.string n)).setCell ⟨ba,i*2+1,none⟩ (.string d)):=by
 refine⟨⟨(fun e=>by cases e),fun q e=>?_⟩,((ab.refl _ _).setCell (Or.inl (by simp)) _).setCell (Or.inl (by simp)) _⟩
 cases e
 rw[ah (ah (h.blk ba rfl) _ _) _ _,List.setIfInBounds_toArray,List.setIfInBounds_toArray,Cs fs i n d hi]
theorem gK.cells{w:World}{ba i:Nat}{fs:Fs}(h:gK w (some ba) fs)(hi:i<fs.length):(w.cell? ⟨ba,i*2,none⟩=some (.string (aC fs i))/\w.cell? ⟨ba,i*2+1,none⟩=some (.string (aj fs i)))/\(∀j,w.frozen? ⟨ba,j,none⟩=false)/\ba<w.heap.size:=by
 have hb:=h.blk ba rfl;obtain⟨f0,f1⟩:=uw fs i hi;exact⟨⟨by rw[aa hb];simpa using f0,by rw[aa hb];simpa using f1⟩,ak hb,ae hb⟩
theorem l5{w:World}{h:Hd}{L:List (Option Nat×Fs)}(o:aA w h (fP L)){k:Nat}{x:Option Nat×Fs}(hk:L[k]?=some x):∃g,h.ao=some ⟨g,0,none⟩/\g<w.heap.size/\w.cell? ⟨g,k,none⟩=some (xp x):=by
 have hl:=(List.getElem?_eq_some_iff.1 hk).1
 rcases o.ways with ⟨_,h0,_⟩ | ⟨g,cur,e1,e2,e3,-⟩
 ·have h0:L.length=0:=h0
  omega
 ·exact⟨g,e1,ae e2,o.cell e1 k (xp x) (by show(L.map xp)[k]?=_;rw[List.getElem?_map,hk];rfl)⟩
set_option maxRecDepth 100000 in
theorem Ky(b N:Nat)(I:Nat×Nat->It)(M:Mc)(A C D:Int)(s t:ByteArray)(w:World)(h:bM w b I M N)(hN:N<=1073741824)(hA:rC A)(hC:rC C)(hs:s.size<=1073741824)(ht:t.size<=1073741824) :
  Calls Tryz.prog 11 #[.pointer (some ⟨b,0,none⟩),.agg #[.int .i64 6,.int .i64 A,.int .i64 C,.int .i64 D,.string s,.string t]] w fun e w'=>gu b I N true e w':=by
 obtain⟨W,HW⟩:∃W,Hid (w.alloc (.cells #[.int .i64 6,.int .i64 A,.int .i64 C,.int .i64 D,.string s,.string t] 28)=W):=⟨_,rfl⟩
 obtain⟨hM,hB,hbw,-⟩:=h.boxed 6 A C D s t W HW.out;obtain⟨o0,o1,o2,o3,o4,o5,oz⟩:=ee hB;have bz:=ae hM.blk;have c3:W.cell? ⟨b,3,none⟩=some (.slice M.hl.ao M.L.length M.hl.cap):=by rw[aa hM.blk];rfl
 by_cases hL:M.L.length=0
 ·have HF:Hid (bM W b I M N):=hM
  rw[hL]at c3;clear h hM hB;go_enter Tryz.func11,Tryz.ntmps11
  go_upto_region 1 with fail
  rw[HW.out];go_wp2;go_ret;exact⟨rfl,_,_,HF.out.more,rfl⟩
 ·have hLn:=h.len.2.2
  have HPK:Hid (∀wx,Calls Tryz.prog 12 #[.int .i64 A,.int .i64 M.L.length] wx fun e w'=>e=.returned (.int .i64 (f9 A M.L.length:Nat))/\w'=wx):=fun wx=>ij A M.L.length wx hA ⟨by omega,by omega⟩
  have hkl:=ju A M.L.length (by omega);obtain⟨k,Hk⟩:∃k,Hid (f9 A M.L.length=k):=⟨_,rfl⟩
  rw[Hk.out]at HPK hkl;obtain⟨⟨a,c,fs⟩,hk⟩:∃x,M.L[k]?=some x:=⟨M.L[k],List.getElem?_eq_getElem hkl⟩
  have HM:Hid (bM W b I M N):=hM;obtain⟨hI8,hI9,hfit,hfl⟩:=hM.l k a c fs hk;obtain⟨gl,hgl,gz,gc⟩:=l5 hM.ownL (k:=k) (x:=(a,fs)) (by rw[List.getElem?_map,hk];rfl);replace gc:W.cell? ⟨gl,k,none⟩=some (.slice (GR a) fs.length fs.length):=gc;rw[hgl]at c3;have hki:(k:Int)<(M.L.length:Int):=by omega
  have hLi:(0:Int)<(M.L.length:Int):=by omega
  have HKk:=(show Hid _ from hk);have H8:=(show Hid _ from hI8);have H9:=(show Hid _ from hI9)
  by_cases hf0:fs.length=0
  ·rw[hf0]at gc
   clear h hM hB hk hI8 hI9 hfit hgl;go_enter Tryz.func11,Tryz.ntmps11
   go_upto_region 1 with fail
   rw[HW.out]
   go_upto_region 26 with fail
   go_quiet ((go_at_call 12;exact Calls.quiet_of_same (HPK.out _)))
   have HF:Hid (bM (W.drewN nq) b I M N):=HM.out.still ((ab.refl [] _).drewN nq);go_wp2;go_ret;exact⟨rfl,_,_,HF.out.more,rfl⟩
  ·have HPI:Hid (∀wx,Calls Tryz.prog 12 #[.int .i64 C,.int .i64 fs.length] wx fun e w'=>e=.returned (.int .i64 (f9 C fs.length:Nat))/\w'=wx):=fun wx=>ij C fs.length wx hC ⟨by omega,by omega⟩
   have hil:=ju C fs.length (by omega);obtain⟨i,Hi⟩:∃i,Hid (f9 C fs.length=i):=⟨_,rfl⟩
   rw[Hi.out]at HPI hil;have hL8:gK W a fs:=by have:=hM.sep.all (8,k);rw[hI8]at this;exact this
   have hL9:gK W c fs:=by have:=hM.sep.all (9,k);rw[hI9]at this;exact this
   obtain⟨ba,rfl⟩:∃ba,a=some ba:=by
    cases a with
    | none=>rw[hL8.nil rfl]at hf0;exact absurd rfl hf0
    | some ba=>exact⟨ba,rfl⟩
   obtain⟨bc,rfl⟩:∃bc,c=some bc:=by
    cases c with
    | none=>rw[hL9.nil rfl]at hf0;exact absurd rfl hf0
    | some bc=>exact⟨bc,rfl⟩
   have hba:=(hL8.cells hil).2.2
   have hneB:ba≠w.heap.size:=by
    intro e;have:=(rL (some ba) fs).lt w (by have:=h.sep.all (8,k);rw[(h.l k _ _ fs hk).1]at this;exact this) ba (List.mem_singleton.2 rfl);omega
   have HBx:=(show Hid _ from hB);have HFIT:Hid (kt (fs.set i (s,t))):=E7 hfit i hs ht;replace gc:W.cell? ⟨gl,k,none⟩=some (.slice (some ⟨ba,0,none⟩) fs.length fs.length):=gc;have hii:(i:Int)<(fs.length:Int):=by omega
   have hfi:(0:Int)<(fs.length:Int):=by omega
   have HNE:=(show Hid _ from hneB)
   have HPK2:Hid (∀W',ab [] W W'->(W'.cell? ⟨w.heap.size,2,none⟩=some (.int .i64 C)/\W'.cell? ⟨w.heap.size,4,none⟩=some (.string s)/\W'.cell? ⟨w.heap.size,5,none⟩=some (.string t)/\w.heap.size<W'.heap.size)/\(W'.cell? ⟨b,3,none⟩=some (.slice (some ⟨gl,0,none⟩) M.L.length M.hl.cap)/\b<W'.heap.size)/\W'.cell? ⟨gl,k,none⟩=some (.slice (some ⟨ba,0,none⟩) fs.length fs.length)/\gl<W'.heap.size):=fun W' kw=>by
    have q:∀g i,g<W.heap.size->W'.cell? ⟨g,i,none⟩=W.cell? ⟨g,i,none⟩:=fun g i hg=>World.cell?_of_block (kw.block g hg (by simp))
    have z:=kw.size;exact⟨⟨by rw[q _ _ oz];exact o2,by rw[q _ _ oz];exact o4,by rw[q _ _ oz];exact o5,by omega⟩,⟨by rw[q _ _ bz];exact c3,by omega⟩,by rw[q _ _ gz];exact gc,by omega⟩
   clear h hM hB hk hI8 hI9 hfit hgl hL8 hL9 hneB hba;go_enter Tryz.func11,Tryz.ntmps11
   go_upto_region 1 with fail
   rw[HW.out]
   go_upto_region 26 with fail
   go_quiet ((go_at_call 12;exact Calls.quiet_of_same (HPK.out _)))
   go_upto_region 28 with fail
   obtain⟨W2,HW2⟩:∃W2,Hid (W.drewN nq=W2):=⟨_,rfl⟩
   rw[HW2.out];have HK2:Hid (ab [] W W2):=by show ab _ _ _;rw[<-HW2.out];exact(ab.refl [] _).drewN nq
   clear o0 o1 o2 o3 o4 o5 oz c3 bz gc gz;obtain⟨⟨o2,o4,o5,oz⟩,⟨c3,bz⟩,gc,gz⟩:=HPK2.out W2 HK2.out
   go_quiet ((go_at_call 12;exact Calls.quiet_of_same (HPI.out _)))
   go_upto_region 29 with fail
   obtain⟨W3,HW3⟩:∃W3,Hid (W2.drewN nq=W3):=⟨_,rfl⟩
   rw[HW3.out];have HK3:Hid (ab [] W W3):=by show ab _ _ _;rw[<-HW3.out];exact HK2.out.drewN nq
   have HM3:Hid (bM W3 b I M N):=HM.out.still HK3.out;have HL8:Hid (gK W3 (some ba) fs):=by show gK _ _ _;have:=HM3.out.sep.all (8,k);rw[H8.out]at this;exact this
   clear o2 o4 o5 oz c3 bz gc gz;obtain⟨⟨o2,o4,o5,oz⟩,⟨c3,bz⟩,gc,gz⟩:=HPK2.out W3 HK3.out;obtain⟨⟨d0,d1⟩,df,dz⟩:=HL8.out.cells hil
   go_region
   all_goals
    obtain⟨W4,HW4⟩:∃W4,Hid (((W3.setCell ⟨ba,i*2,none⟩ (.string s)).setCell ⟨ba,i*2+1,none⟩ (.string t)).drew=W4):=⟨_,rfl⟩
    rw[HW4.out];have HK4:Hid (ab [ba] W3 W4):=by show ab _ _ _;rw[<-HW4.out];exact(HL8.out.wrote hil s t).2.drew
    have S4:Hid (nD W4 (fe I (8,k) (rL (some ba) (fs.set i (s,t))))):=by
     show nD _ _
     refine HM3.out.sep.put _ _ (by rw[H8.out];exact HK4.out) ?_ (fun q hq=>Or.inl (by rw[H8.out];exact hq));rw[<-HW4.out];exact(rL _ _).ok [] _ _ (HL8.out.wrote hil s t).1 (ab.refl [] _).drew (by simp)
    have e40:Hid (fe I (8,k) (rL (some ba) (fs.set i (s,t))) (0,0)=pK b 42 M.cells):=by show _=_;rw[aq _ _ (bA (by decide))];exact HM.out.w0
    have e45:Hid (fe I (8,k) (rL (some ba) (fs.set i (s,t))) (5,0)=dd M.hc (fP (M.L.map (fun l=>(l.2.1,l.2.2))))):=by show _=_;rw[aq _ _ (bA (by decide))];exact HM.out.lw
    have e49:Hid (fe I (8,k) (rL (some ba) (fs.set i (s,t))) (9,k)=rL (some bc) fs):=by show _=_;rw[aq _ _ (bA (by decide))];exact H9.out
    obtain⟨b4,ow4,-⟩:=S4.out.rowAt e40.out (bA (by decide)) e45.out;have HL9:Hid (gK W4 (some bc) fs):=by show gK _ _ _;have:=S4.out.all (9,k);rw[e49.out]at this;exact this
    obtain⟨gr,hgr,rz,rc⟩:=l5 ow4 (k:=k) (x:=(some bc,fs)) (by rw[List.getElem?_map,HKk.out];rfl);replace rc:W4.cell? ⟨gr,k,none⟩=some (.slice (some ⟨bc,0,none⟩) fs.length fs.length):=rc;have c4:W4.cell? ⟨b,4,none⟩=some (.slice (some ⟨gr,0,none⟩) M.L.length M.hc.cap):=by rw[aa b4,<-hgr];rfl
    clear d0 d1 df dz o2 o4 o5 oz c3 bz gc gz;obtain⟨⟨d0,d1⟩,df,dz⟩:=HL9.out.cells hil;have bz:=ae b4;have B4:=HK4.out.get (HK3.out.get HBx.out (by simp)) (by simp;exact fun e=>HNE.out e.symm);obtain⟨-,-,-,-,o4,o5,oz⟩:=ee B4;clear b4 ow4 hgr B4
    go_upto_region 30 with fail
    go_region
    all_goals
     obtain⟨W5,HW5⟩:∃W5,Hid (((W4.setCell ⟨bc,i*2,none⟩ (.string s)).setCell ⟨bc,i*2+1,none⟩ (.string t)).drew=W5):=⟨_,rfl⟩
     rw[HW5.out];have HK5:Hid (ab [bc] W4 W5):=by show ab _ _ _;rw[<-HW5.out];exact(HL9.out.wrote hil s t).2.drew
     have S5:Hid (nD W5 (fe (fe I (8,k) (rL (some ba) (fs.set i (s,t)))) (9,k) (rL (some bc) (fs.set i (s,t))))):=by
      show nD _ _
      refine S4.out.put _ _ (by rw[e49.out];exact HK5.out) ?_ (fun q hq=>Or.inl (by rw[e49.out];exact hq));rw[<-HW5.out];exact(rL _ _).ok [] _ _ (HL9.out.wrote hil s t).1 (ab.refl [] _).drew (by simp)
     go_wp2;go_ret;exact⟨rfl,HM.out.wrote HKk.out List.length_set HFIT.out S5.out⟩
theorem zK{w:World}{b o k:Nat}{fs:Fs}(h:w.heap[b]?=some (.cells (oE fs).toArray 68 (0,0)))(hk:o+k<fs.length):w.cell? ⟨b,o*2+k*2,none⟩=some (.string (aC fs (o+k)))/\w.cell? ⟨b,o*2+k*2+1,none⟩=some (.string (aj fs (o+k))):=by
 obtain⟨f0,f1⟩:=uw fs (o+k) hk;rw[Nat.add_mul]at f0 f1;exact⟨by rw[aa h];simpa using f0,by rw[aa h];simpa using f1⟩
theorem gK.piece{w:World}{b:Nat}{fs:Fs}(h:w.heap[b]?=some (.cells (oE fs).toArray 68 (0,0)))(o n:Nat)(hn:o+n<=fs.length):j6 w (some ⟨b,o*2,none⟩) ((fs.drop o).take n):=by
 intro k hk;rw[List.length_take,List.length_drop]at hk;have e:∀j,j<n->((fs.drop o).take n)[j]?=fs[o+j]?:=fun j hj=>by rw[List.getElem?_take,if_pos hj,List.getElem?_drop]
 obtain⟨c0,c1⟩:=zK h (o:=o) (k:=k) (by omega);have e1:aC ((fs.drop o).take n) k=aC fs (o+k):=by unfold aC;rw[List.getD_eq_getElem?_getD,List.getD_eq_getElem?_getD,e k (by omega)]
 have e2:aj ((fs.drop o).take n) k=aj fs (o+k):=by unfold aj;rw[List.getD_eq_getElem?_getD,List.getD_eq_getElem?_getD,e k (by omega)]
 exact⟨b,o*2,rfl,ae h,by rw[e1];exact c0,by rw[e2];exact c1⟩
theorem gK.src{w:World}{a:Option Nat}{fs:Fs}(h:gK w a fs):j6 w (GR a) fs:=by
 cases a with
 | none=>rw[h.nil rfl];intro k hk;cases hk
 | some b =>
  have:=gK.piece (h.blk b rfl) 0 fs.length (by omega);rw[List.drop_zero,List.take_length,Nat.zero_mul]at this;exact this
set_option maxRecDepth 100000 in
theorem DD(b N:Nat)(I:Nat×Nat->It)(M:Mc)(w:World)(h:bM w b I M N)(hN:N<=1073741825) :
  Calls Tryz.prog 10 #[.pointer (some ⟨b,0,none⟩)] w fun e w'=>e=.returned (.bool true)/\ab [] w w':=by
 have HM:Hid (bM w b I M N):=h;have bz:=ae h.blk;have c15:w.cell? ⟨b,15,none⟩=some (.slice none 0 0):=by rw[aa h.blk];rfl
 have c16:w.cell? ⟨b,16,none⟩=some (.slice none 0 0):=by rw[aa h.blk];rfl
 have hLn:=h.len.2.2;clear h;go_enter Tryz.func10,Tryz.ntmps10;go_wp2
 go_loopg [3] 0 (fun g i wr=>g=0/\i=.int .i64 0/\w=wr)
 case atStart=>exact⟨rfl,rfl,rfl⟩
 case round =>
  obtain⟨hg,rfl,rfl⟩:=hrel;go_wp2
  go_loopg [5] 0 (fun g i wr2=>g=0/\i=.int .i64 0/\w=wr2)
  case atStart=>exact⟨rfl,rfl,rfl⟩
  case round =>
   obtain⟨hg2,rfl,rfl⟩:=hrel;go_wp2
   go_loopg [7] M.L.length (fun g i wr=>∃k:Nat,k<=M.L.length/\g=M.L.length-k/\i=.int .i64 k/\Hid (ab [] w wr))
   case atStart=>exact⟨0,by omega,rfl,rfl,ab.refl _ _⟩
   case round =>
    obtain⟨k,hk,hg3,rfl,HK⟩:=hrel;have HMr:Hid (bM wr b I M N):=HM.out.still HK.out;have c3:wr.cell? ⟨b,3,none⟩=some (.slice M.hl.ao M.L.length M.hl.cap):=by rw[aa HMr.out.blk];rfl
    have c4:wr.cell? ⟨b,4,none⟩=some (.slice M.hc.ao M.L.length M.hc.cap):=by rw[aa HMr.out.blk];rfl
    clear bz;have bz:=ae HMr.out.blk
    by_cases hlt:k<M.L.length
    ·obtain⟨⟨a,c,fs⟩,hk2⟩:∃x,M.L[k]?=some x:=⟨M.L[k],List.getElem?_eq_getElem hlt⟩
     obtain⟨hI8,hI9,-,hfl⟩:=HMr.out.l k a c fs hk2;obtain⟨gl,hgl,gz,gc⟩:=l5 HMr.out.ownL (k:=k) (x:=(a,fs)) (by rw[List.getElem?_map,hk2];rfl);obtain⟨gr,hgr,rz,rc⟩:=l5 HMr.out.ownC (k:=k) (x:=(c,fs)) (by rw[List.getElem?_map,hk2];rfl);replace gc:wr.cell? ⟨gl,k,none⟩=some (.slice (GR a) fs.length fs.length):=gc;replace rc:wr.cell? ⟨gr,k,none⟩=some (.slice (GR c) fs.length fs.length):=rc;rw[hgl]at c3;rw[hgr]at c4;have hL8:gK wr a fs:=by have:=HMr.out.sep.all (8,k);rw[hI8]at this;exact this
     have hL9:gK wr c fs:=by have:=HMr.out.sep.all (9,k);rw[hI9]at this;exact this
     have HSF:Hid (∀n,Calls Tryz.prog 26 #[.slice (GR a) fs.length fs.length,.slice (GR c) fs.length fs.length] (wr.drewN n) fun e w'=>e=.returned (.bool true)/\∃m,w'=(wr.drewN n).drewN m):=fun n=>lU (GR a) (GR c) _ _ fs (wr.drewN n) (j6.kept hL8.src ((ab.refl [] _).drewN n) (by simp)) (j6.kept hL9.src ((ab.refl [] _).drewN n) (by simp)) (by omega)
     have hki:(k:Int)<(M.L.length:Int):=by omega
     clear hk2 hI8 hI9 hgl hgr hL8 hL9
     go_upto_region 16 with fail
     go_quiet ((go_at_call 26;exact Calls.quiet_of (HSF.out _)))
     have HK2:Hid (ab [] w (wr.drewN nq)):=HK.out.drewN nq;go_wp2
     go_roundg (M.L.length-(k+1))
     case measure=>omega
     case rel=>exact⟨k+1,by omega,rfl,by go_num,HK2⟩
    ·have hnn:¬(k:Int)<(M.L.length:Int):=by omega
     go_wp2;go_ret;exact⟨rfl,HK.out⟩
structure mG(T:List Tk)(S:List Sm)(n:Nat):Prop where
 ok:ji T S n
 sm:S.length<=10000
 tm:T.length<=10000
 e:∀j,j<n->b7 (au S j).k=false->eF T (au S j).h
 f:kI T S n
theorem mG.mono{T:List Tk}{S:List Sm}{n m:Nat}(h:mG T S n)(hm:m<=n):mG T S m :=
 ⟨⟨Nat.le_trans hm h.ok.m,h.ok.s,h.ok.t,fun j hj=>h.ok.c j (by omega),fun j hj=>h.ok.v j (by omega),fun j hj=>h.ok.a j (by omega)⟩,h.sm,h.tm,fun j hj=>h.e j (by omega),fun j hj=>h.f j (by omega)⟩
def LC(T:List Tk)(S:List Sm)(x y:ByteArray)(a j:Nat):Bool:=((au S j).k.toList == [36,100])&&(!(x.toList==y.toList)&&(aI (bV T (au S j).h) x&&(aI (bV T (au S j).h) y&&bB S j a)))
def ir(T:List Tk)(S:List Sm)(x y:ByteArray)(a:Nat):Bool:=(List.range a).any (LC T S x y a)
theorem fY{k:ByteArray}{l:List UInt8}(h:(k.toList==l)=true)(hl:(l == [36,46])=false/\(l == [36,123])=false/\(l == [36,125])=false):b7 k=false:=by
 have:k.toList=l:=by simpa using h
 unfold b7;rw[this,hl.1,hl.2.1,hl.2.2];rfl
set_option maxRecDepth 100000 in
theorem tU(b n:Nat)(x y:ByteArray)(T:List Tk)(aoT:Option Addr)(cT:Nat)(S:List Sm)(aoS:Option Addr)(cS:Nat)(w:World)(hD:fa w b T aoT cT S aoS cS)(ok:mG T S n) :
  Calls Tryz.prog 94 #[.pointer (some ⟨b,0,none⟩),.string x,.string y,.int .i64 n] w fun e w'=>e=.returned (.bool (ir T S x y n))/\ab [] w w':=by
 have HD:=(show Hid _ from hD);have hn:=ok.ok.m;have hS:=ok.ok.s;have hT:=ok.ok.t;have HOK:=(show Hid _ from ok);clear hD ok;go_enter Tryz.func94,Tryz.ntmps94;go_wp2
 go_loopg [9] n (fun g i wr=>∃k:Nat,k<=n/\g=n-k/\i=.int .i64 k/\Hid (∀j,j<k->LC T S x y n j=false)/\Hid (ab [] w wr))
 case atStart=>exact⟨0,by omega,rfl,rfl,(fun j hj=>by omega),ab.refl _ _⟩
 case round =>
  obtain⟨k,hk,hg,rfl,HN,HK⟩:=hrel
  by_cases hlt:k<n
  ·have hks:k<S.length:=by omega
   have HDr:=(show Hid _ from fa.still HD.out HK.out);obtain⟨-,c1,hb⟩:=HDr.out.cells;obtain⟨gs,rfl,hgs,-,-,-,q3⟩:=HDr.out.s.2 k S[k] (List.getElem?_eq_getElem hks);have hki:(k:Int)<(n:Int):=by omega
   have hki2:(k:Int)<(S.length:Int):=by omega
   have HP:Hid (LC T S x y n k=((S[k].k.toList == [36,100])&&(!(x.toList==y.toList)&&(aI (bV T S[k].h) x&&(aI (bV T S[k].h) y&&bB S k n))))):=by show _=_;unfold LC;rw[bC S k hks]
   have HEk:Hid ((S[k].k.toList == [36,100])=true->eF T S[k].h):=fun h=>by have:=HOK.out.e k hlt;rw[<-bC S k hks]at this;exact this (fY h (by decide))
   have HBD:Hid ((S[k].k.toList == [36,100])=true->∀wx,ab [] w wx->Calls Tryz.prog 72 #[.pointer (some ⟨b,0,none⟩),.int .i64 k] wx fun e w'=>∃h',e=.returned (.slice h'.ao (bV T S[k].h).length h'.cap)/\tP wx w' h' (bV T S[k].h)):=fun h wx kx=>ki b k T aoT cT S _ cS wx (fa.still HD.out kx) hks hT (HEk.out h)
   have HBL:=jQ T S[k].h;have HAC:Hid (∀wx,ab [] w wx->Calls Tryz.prog 92 #[.pointer (some ⟨b,0,none⟩),.int .i64 k,.int .i64 n] wx fun e w'=>e=.returned (.bool (bB S k n))/\w'=wx):=fun wx kx=>j5 b k n T aoT cT S _ cS wx (fa.still HD.out kx) (by omega) hn hS
   clear HEk;generalize bV T S[k].h=B at *;generalize S[k].k=sk at *;obtain⟨ac,Hac⟩:∃ac,Hid (bB S k n=ac):=⟨_,rfl⟩
   rw[Hac.out]at HP HAC
   cases h1:(sk.toList == [36,100])
   ·have HM:=(show Hid _ from dD HN.out (by rw[HP.out,h1];rfl))
    go_wp2
    go_roundg (n-(k+1))
    case measure=>omega
    case rel=>exact⟨k+1,by omega,rfl,by go_num,HM,HK⟩
   ·cases h2:(x.toList==y.toList)
    ·have HB2:=(show Hid _ from HBD.out h1)
     go_upto_region 6 with (go_at_call 72;refine(HB2.out _ (by exact HK.out)).mono ?_;rintro e w2 ⟨h3,rfl,x2⟩)
     have HK2:=(show Hid _ from HK.out.trans x2.kept);have HAM:=(show Hid _ from je B h3.ao h3.cap x w2 x2.own.srcX (by omega));have HAN:=(show Hid _ from je B h3.ao h3.cap y w2 x2.own.srcX (by omega));have HA2:=(show Hid _ from HAC.out w2 HK2.out);clear x2 c1 q3;obtain⟨p,Hp⟩:∃p,Hid (aI B x=p):=⟨_,rfl⟩
     rw[Hp.out]at HAM HP;obtain⟨q,Hq⟩:∃q,Hid (aI B y=q):=⟨_,rfl⟩
     rw[Hq.out]at HAN HP
     go_upto_region 7 with (go_at_call 93;refine Calls.mono HAM.out ?_;rintro e w9 ⟨rfl,hw9⟩;rw[hw9];clear hw9)
     go_upto_region 8 with (go_at_call 93;refine Calls.mono HAN.out ?_;rintro e w9 ⟨rfl,hw9⟩;rw[hw9];clear hw9)
     go_upto_region 9 with (go_at_call 92;refine Calls.mono HA2.out ?_;rintro e w9 ⟨rfl,hw9⟩;rw[hw9];clear hw9)
     cases hr:(p&&(q&&ac))
     ·have HM:=(show Hid _ from dD HN.out (by rw[HP.out,hr];simp))
      cases p <;> cases q <;> cases ac <;> first | (exact absurd hr (by decide)) | skip
      all_goals
       go_wp2
       go_roundg (n-(k+1))
       case measure=>omega
       case rel=>exact⟨k+1,by omega,rfl,by go_num,HM,HK2⟩
     ·have HM:Hid (ir T S x y n=true):=lI k hlt (by rw[HP.out,h1,h2,hr];rfl)
      simp only[Bool.and_eq_true]at hr;obtain⟨rfl,rfl,rfl⟩:=hr;go_wp2;go_ret;exact⟨aB HM.out.symm,HK2.out⟩
    ·have HM:=(show Hid _ from dD HN.out (by rw[HP.out,h2];simp))
     go_wp2
     go_roundg (n-(k+1))
     case measure=>omega
     case rel=>exact⟨k+1,by omega,rfl,by go_num,HM,HK⟩
  ·have HM:Hid (ir T S x y n=false):=tT (fun j hj=>HN.out j (by omega))
   go_wp2;go_ret;exact⟨aB HM.out.symm,HK.out⟩
structure iz(w wr:World)(h:Hd)(r:dK):Prop where
 own:aA wr h r
 far:∀k,h.blk=some k->w.heap.size<=k
 kept:ab [] w wr
theorem iz.still{w wr wr':World}{h:Hd}{r:dK}(a:iz w wr h r)(k:ab [] wr wr'):iz w wr' h r:=⟨a.own.still k,a.far,a.kept.trans k⟩
theorem iz.grew{w wr wr':World}{h h':Hd}{r r':dK}(a:iz w wr h r)(g:bh wr wr' h h')(o:aA wr' h' r'):iz w wr' h' r':=by
 refine⟨o,fun k hk=>?_,⟨g.kept.os.trans a.kept.os,g.kept.tape.trans a.kept.tape,g.kept.output.trans a.kept.output,Nat.le_trans a.kept.size g.kept.size,fun k hk _=>?_⟩⟩
 ·rcases g.blk with e | ⟨q,e,hq⟩
  ·exact a.far k (by rw[<-e];exact hk)
  ·rw[e]at hk;cases hk
   exact Nat.le_trans a.kept.size hq
 ·rw[g.kept.block k (Nat.lt_of_lt_of_le hk a.kept.size) (fun hq=>by have:=a.far _ (aK hq);omega),a.kept.block k hk (by simp)]
theorem tP.toL{w wr:World}{h:Hd}{O:List ByteArray}(a:tP w wr h O):iz w wr h (aD O):=⟨a.own,a.far,a.kept⟩
theorem iz.base{w w1 wr:World}{h:Hd}{r:dK}(a:iz w1 wr h r)(k:ab [] w w1):iz w wr h r:=⟨a.own,fun q hq=>Nat.le_trans k.size (a.far q hq),k.trans a.kept⟩
theorem bh.beside{w w':World}{h h':Hd}(g:bh w w' h h'){o:Hd}{r:dK}(ho:aA w o r)(hne:∀k,o.blk=some k->h.blk≠some k):aA w' o r :=
 ho.moved (fun q hq=>g.kept.block q (ho.lt hq) (fun hm=>hne q hq (aK hm)))
theorem ma{P:Program}(w:World){ops:Array Oper}{rest:List Oper}{o:Oper}{a:Act}{Q:Exit->Act->World->Prop}
  (hg:o.guard=none) (s x:Operand) (t:TypeId) (hop:o.op=Op.call { callee:=Callee.builtin Builtin.append,args:=#[s,x],argTypes:=#[t,t] })
  (i:TypeInfo) (z:Value) (bytes:Nat) (h:Hd) (r:dK) (news:List Value) (h1:P.underlying t=some (.slice r.e)) (h2:P.info? r.e=some i) (h3:i.zero=some z) (h4:i.size=r.size) (h5:i.bytes=bytes) (h6:z.cells.size=r.size) (h7:0<r.size)
  (hs:a.eval s=.slice h.ao r.n h.cap) (hown:aA w h r) (hL:r.n<=1000000) (hb:bytes<=1000) (hx:a.eval x=.slice (some ⟨w.heap.size,0,none⟩) 1 1) (hn:news.length=r.size) (h1c:∀u∈news,u.oneCell'=true)
  (hK:∀h' w',aA w' h' ⟨r.e,r.size,r.n+1,r.xs++news⟩->bh w w' h h'->wpList P ops Q rest (a.put o.dst (.slice h'.ao (r.n+1) h'.cap)) w') :
  wpList P ops Q (o :: rest) a (w.alloc (.cells news.toArray r.e)):=by
 have k1:ab [] w (w.alloc (.cells news.toArray r.e)):=(ab.refl [] _).alloc _;have hk:(w.alloc (.cells news.toArray r.e)).heap[w.heap.size]?=some (.cells news.toArray r.e (0,0)):=heap_alloc_new _ _;refine aM _ hg s x t hop i z bytes h r h1 h2 h3 h4 h5 h6 h7 hs (hown.still k1) ⟨w.heap.size,0,none⟩ 1 1 news hx (by omega) ?_ h1c Nat.one_pos (by unfold maxLen;omega) (Nat.le_trans (Nat.mul_le_mul (show r.n+1<=1000001 by omega) hb) (by omega)) ?_
 ·intro j u hj
  rw[bK,aa hk];simpa using hj
 ·intro g5 cap5 w5 hw5 hgr5 hf5
  exact hK ⟨some ⟨g5,0,none⟩,cap5⟩ w5 hw5 ((bh.still k1).trans (bh.made hgr5 hf5))
def pE(w:World)(ao:Option Addr)(L:List Nat):Prop:=∀(k n:Nat),L[k]?=some n->∃g,ao=some ⟨g,0,none⟩/\g<w.heap.size/\w.cell? ⟨g,k,none⟩=some (.int .i64 n)
theorem pE.still{w w':World}{ao:Option Addr}{L:List Nat}(h:pE w ao L)(k:ab [] w w'):pE w' ao L:=by
 intro j x hj;obtain⟨g,e,hg,c0⟩:=h j x hj;exact⟨g,e,Nat.lt_of_lt_of_le hg k.size,by rw[World.cell?_of_block (k.block g hg (by simp))];exact c0⟩
theorem ii.still{w w':World}{ao:Option Addr}{L:List ByteArray}(h:ii w ao L)(k:ab [] w w'):ii w' ao L:=by
 intro j x hj;obtain⟨g,e,hg,c0⟩:=h j x hj;exact⟨g,e,Nat.lt_of_lt_of_le hg k.size,by rw[World.cell?_of_block (k.block g hg (by simp))];exact c0⟩
theorem aA.srcN{w:World}{h:Hd}{L:List Nat}(o:aA w h (bq L)):pE w h.ao L:=by
 intro k x hk
 rcases o.ways with ⟨_,h0,_⟩ | ⟨g,cur,e1,e2,e3,-⟩
 ·have h0:L.length=0:=h0
  have:=(List.getElem?_eq_some_iff.1 hk).1;omega
 ·exact⟨g,e1,ae e2,o.cell e1 k (.int .i64 x) (by simp[bq,iZ,hk])⟩
theorem qh(L:List Nat)(n:Nat):(⟨(bq L).e,(bq L).size,(bq L).n+1,(bq L).xs++[.int .i64 n]⟩:dK)=bq (L++[n]):=by
 simp[bq,iZ]
theorem zh(L M:List ByteArray):(⟨(aD L).e,(aD L).size,(aD L).n+M.length,(aD L).xs++dN M⟩:dK)=aD (L++M):=by
 simp[aD,dN]
theorem xb:(Tryz.prog.info? 3).map (fun i=>(i.zero,i.size,i.bytes))=some (some (.int .i64 0),1,8):=by kernel_rfl
theorem ii.cells{w:World}{ao:Option Addr}{L:List ByteArray}(h:ii w ao L):∀ad,ao=some ad->∀j u,(dN L)[j]?=some u->w.cell? (ad.add j)=some u:=by
 intro ad e j u hj;rw[dN,List.getElem?_map]at hj
 cases hx:L[j]? with
 | none=>rw[hx]at hj;cases hj
 | some x =>
  rw[hx]at hj
  cases hj
  obtain⟨g,e2,-,c⟩:=h j x hx;rw[e]at e2
  cases e2
  rw[bK];simpa using c
def AN(S:List Sm)(a j:Nat):Bool:=((au S j).k.toList == [36,101])&&bB S j a
def kD(T:List Tk)(S:List Sm)(a k:Nat):List ByteArray:=bV T (au S a).h++((List.range k).filter (AN S a)).flatMap (fun j=>bV T (au S j).h)
def FL(T:List Tk)(S:List Sm)(a:Nat):List ByteArray:=kD T S a a
def tw(T:List Tk)(S:List Sm)(a:Nat)(U:List ByteArray)(j:Nat):Bool:=bB S j a&&(((au S j).k.toList == [36,101])||(((au S j).k.toList == [36,102])&&aI U (tS T ((au S j).h+1))))
def cD(T:List Tk)(S:List Sm)(a:Nat):List Nat:=(List.range a).filter (tw T S a (FL T S a))
theorem fK(p:Nat->Bool)(k:Nat):(List.range (k+1)).filter p=(List.range k).filter p++(if p k=true then [k] else []):=by
 rw[List.range_succ,List.filter_append]
 congr 1
 cases h:p k
 ·rw[List.filter_cons_of_neg (by rw[h];simp)];rfl
 ·rw[List.filter_cons_of_pos h];rfl
theorem G6(T:List Tk)(S:List Sm)(a k:Nat)(h:AN S a k=true):kD T S a (k+1)=kD T S a k++bV T (au S k).h:=by
 unfold kD;rw[fK,if_pos h,List.flatMap_append,List.append_assoc];simp
theorem JH(T:List Tk)(S:List Sm)(a k:Nat)(h:AN S a k=false):kD T S a (k+1)=kD T S a k:=by
 unfold kD;rw[fK,if_neg (by rw[h];simp),List.append_nil]
theorem Js{k:ByteArray}(h1:(k.toList == [36,101])=true)(h2:(k.toList == [36,102])=true):False:=by
 have a1:k.toList=[36,101]:=by simpa using h1
 rw[a1]at h2;exact absurd h2 (by decide)
set_option maxRecDepth 100000 in
theorem og(b n:Nat)(T:List Tk)(aoT:Option Addr)(cT:Nat)(S:List Sm)(aoS:Option Addr)(cS:Nat)(w:World)(hD:fa w b T aoT cT S aoS cS)(ok:mG T S n)(hn:n<S.length)(hE:eF T (au S n).h) :
  Calls Tryz.prog 62 #[.pointer (some ⟨b,0,none⟩),.int .i64 n] w fun e w'=>∃h',e=.returned (.slice h'.ao (cD T S n).length h'.cap)/\iz w w' h' (bq (cD T S n)):=by
 have HD:=(show Hid _ from hD);have hS:=ok.ok.s;have hT:=ok.ok.t;have hS2:=ok.sm;have hT2:=ok.tm;have HOK:=(show Hid _ from ok);have HB0:Hid (∀wx,ab [] w wx->Calls Tryz.prog 72 #[.pointer (some ⟨b,0,none⟩),.int .i64 n] wx fun e w'=>∃h',e=.returned (.slice h'.ao (bV T S[n].h).length h'.cap)/\tP wx w' h' (bV T S[n].h)):=fun wx kx=>ki b n T aoT cT S _ cS wx (hD.still kx) hn hT (by rw[bC S n hn];exact hE)
 have HBB:=(show Hid _ from HB0.out w (ab.refl _ _));rw[bC S n hn]at HBB;have HU0:Hid (kD T S n 0=bV T (au S n).h):=by show _=_;unfold kD;simp
 have hl0:=jQ T (au S n).h;obtain⟨iS,hiS,hzS0,hzS1,hzS2⟩:=info_parts jI;obtain⟨iN,hiN,hzN0,hzN1,hzN2⟩:=info_parts xb;clear hD ok HB0;generalize bV T (au S n).h=B0 at *;go_enter Tryz.func62,Tryz.ntmps62
 go_upto_region 2 with (go_at_call 72;refine Calls.mono HBB.out ?_;rintro e w0 ⟨h0,rfl,x0⟩)
 have HX0:=(show Hid _ from x0.toL);clear x0 HBB;go_wp2
 go_loopg [5,6] n (fun g u i wr=>∃(k:Nat) (h':Hd) (O:List ByteArray),k<=n/\g=n-k/\u=.slice h'.ao O.length h'.cap/\i=.int .i64 k/\O.length<=10000*(k+1)/\Hid (O=kD T S n k)/\Hid (iz w wr h' (aD O)))
 case atStart=>exact⟨0,h0,B0,by omega,rfl,rfl,rfl,by omega,HU0.out.symm,HX0⟩
 case round =>
  obtain⟨k,h',O,hk,hg,rfl,rfl,hO,HE,HW⟩:=hrel
  by_cases hlt:k<n
  ·have hks:k<S.length:=by omega
   have HDr:=(show Hid _ from fa.still HD.out HW.out.kept);obtain⟨-,c1,hb⟩:=HDr.out.cells;obtain⟨gs,rfl,hgs,-,-,-,q3⟩:=HDr.out.s.2 k S[k] (List.getElem?_eq_getElem hks);have hki:(k:Int)<(n:Int):=by omega
   have hki2:(k:Int)<(S.length:Int):=by omega
   have HP:Hid (AN S n k=((S[k].k.toList == [36,101])&&bB S k n)):=by show _=_;unfold AN;rw[bC S k hks]
   have HBD:Hid ((S[k].k.toList == [36,101])=true->Calls Tryz.prog 72 #[.pointer (some ⟨b,0,none⟩),.int .i64 k] wr fun e w'=>∃h',e=.returned (.slice h'.ao (bV T S[k].h).length h'.cap)/\tP wr w' h' (bV T S[k].h)):=fun h=>ki b k T aoT cT S _ cS wr HDr.out hks hT (by have:=HOK.out.e k hlt;rw[<-bC S k hks]at this;exact this (fY h (by decide)))
   have HY:Hid (AN S n k=true->O++bV T S[k].h=kD T S n (k+1)):=fun h=>by rw[G6 T S n k h,<-HE.out,bC S k hks]
   have HZ:Hid (AN S n k=false->O=kD T S n (k+1)):=fun h=>by rw[JH T S n k h,<-HE.out]
   have HBL:=jQ T S[k].h;have HAC:=(show Hid _ from j5 b k n T aoT cT S _ cS wr HDr.out (by omega) (by omega) hS);generalize bV T S[k].h=B at *;generalize S[k].k=sk at *;obtain⟨ac,Hac⟩:∃ac,Hid (bB S k n=ac):=⟨_,rfl⟩
   rw[Hac.out]at HP HAC
   cases h1:(sk.toList == [36,101])
   ·have HM:=(show Hid _ from HZ.out (by rw[HP.out,h1];rfl))
    go_wp2_with (go_at_call 92;refine Calls.mono HAC.out ?_;rintro e w9 ⟨rfl,hw9⟩;rw[hw9];clear hw9)
    go_roundg (n-(k+1))
    case measure=>omega
    case rel=>exact⟨k+1,h',O,by omega,rfl,rfl,by go_num,by omega,HM,HW⟩
   ·cases ac
    ·have HM:=(show Hid _ from HZ.out (by rw[HP.out,h1];rfl))
     go_wp2_with (go_at_call 92;refine Calls.mono HAC.out ?_;rintro e w9 ⟨rfl,hw9⟩;rw[hw9];clear hw9)
     go_roundg (n-(k+1))
     case measure=>omega
     case rel=>exact⟨k+1,h',O,by omega,rfl,rfl,by go_num,by omega,HM,HW⟩
    ·have HM:=(show Hid _ from HY.out (by rw[HP.out,h1];rfl))
     have HB2:=(show Hid _ from HBD.out h1)
     go_upto_region 8 with (first | (go_at_call 92;refine Calls.mono HAC.out ?_;rintro e w9 ⟨rfl,hw9⟩;rw[hw9];clear hw9) | (go_at_call 72;refine Calls.mono HB2.out ?_;rintro e w2 ⟨h2,rfl,x2⟩))
     have HL2:=(show Hid _ from HW.out.still x2.kept);have hc2:=(show Hid _ from x2.own.srcX.cells);have HK2:=(show Hid _ from x2.kept)
     have hn2:h2.ao=none->B.length=0/\h2.cap=0:=fun e=>by
      rcases x2.own.ways with ⟨q1,q2,q3⟩ | ⟨g,cur,q1,-⟩
      ·exact⟨q2,by rw[q1]⟩
      ·rw[e]at q1;cases q1
     clear x2 c1 q3;go_wp2_with (at_builtin;refine eK _ rfl (.tmp 40) (.tmp 41) 61 rfl iS (.string ⟨#[]⟩) 16 h' (aD O) Tryz.underlying61 hiS hzS0 hzS1 hzS2 rfl Nat.one_pos rfl HL2.out.own h2.ao B.length h2.cap (dN B) rfl (by simp[aD,dN]) hn2 hc2.out (ko B) (by simp only[aD];omega) (by omega) ?_;intro h5 w5 hw5 hg5;rw[zh]at hw5;have HM2:=(show Hid _ from HL2.out.grew hg5 hw5);clear hw5 hg5)
     go_roundg (n-(k+1))
     case measure=>omega
     case rel=>exact⟨k+1,h5,O++B,by omega,rfl,by simp[aD],by go_num,by simp;omega,HM,HM2⟩
  ·have e:k=n:=by omega
   subst e;obtain⟨U,HU⟩:∃U,Hid (FL T S k=U):=⟨_,rfl⟩
   have e2:O=U:=by rw[<-HU.out,HE.out];rfl
   subst e2;have HX:=(show Hid _ from HW.out.own.srcX);have HKW:=(show Hid _ from HW.out.kept);have HR:Hid (cD T S k=(List.range k).filter (tw T S k O)):=by show _=_;unfold cD;rw[HU.out]
   have HN0:Hid (iz wr wr ⟨none,0⟩ (bq [])):=⟨World.ownsRow_nil _ _ _ _,(by intro k hk;cases hk),ab.refl _ _⟩;clear HW HE;go_wp2
   go_loopg [9,10] k (fun g o i w2=>∃(m:Nat) (h2:Hd) (L:List Nat),m<=k/\g=k-m/\o=.slice h2.ao L.length h2.cap/\i=.int .i64 m/\L.length<=m/\Hid (L=(List.range m).filter (tw T S k O))/\Hid (iz wr w2 h2 (bq L)))
   case atStart=>exact⟨0,⟨none,0⟩,[],by omega,rfl,rfl,rfl,by simp,rfl,HN0⟩
   case round =>
    obtain⟨m,h2,L,hm,hg2,rfl,rfl,hL,HE,HW⟩:=hrel
    by_cases hlt2:m<k
    ·have hks:m<S.length:=by omega
     have HK2:=(show Hid _ from HKW.out.trans HW.out.kept);have HDr:=(show Hid _ from fa.still HD.out HK2.out);obtain⟨c0,c1,hb⟩:=HDr.out.cells;obtain⟨gs,rfl,hgs,-,-,q2,q3⟩:=HDr.out.s.2 m S[m] (List.getElem?_eq_getElem hks);have hki:(m:Int)<(k:Int):=by omega
     have hki2:(m:Int)<(S.length:Int):=by omega
     have HP:Hid (tw T S k O m=(bB S m k&&((S[m].k.toList == [36,101])||((S[m].k.toList == [36,102])&&aI O (tS T (S[m].h+1)))))):=by show _=_;unfold tw;rw[bC S m hks]
     have HFl:Hid ((S[m].k.toList == [36,102])=true->S[m].h+1<T.length):=fun h=>by have:=HOK.out.f m hlt2;rw[<-bC S m hks]at this;exact this h
     have HY:Hid (tw T S k O m=true->L++[m]=(List.range (m+1)).filter (tw T S k O)):=fun h=>by rw[fK,if_pos h,<-HE.out]
     have HZ:Hid (tw T S k O m=false->L=(List.range (m+1)).filter (tw T S k O)):=fun h=>by rw[fK,if_neg (by rw[h];simp),List.append_nil,<-HE.out]
     have HAC:=(show Hid _ from j5 b m k T aoT cT S _ cS wr HDr.out (by omega) (by omega) hS);obtain⟨ac,Hac⟩:∃ac,Hid (bB S m k=ac):=⟨_,rfl⟩
     rw[Hac.out]at HP HAC;generalize S[m].k=sk at *;generalize S[m].h=sh at *;obtain⟨v,Hv⟩:∃v,Hid (tS T (sh+1)=v):=⟨_,rfl⟩
     rw[Hv.out]at HP;have HAM:Hid (∀wx,ab [] wr wx->Calls Tryz.prog 93 #[.slice h'.ao O.length h'.cap,.string v] wx fun e w'=>e=.returned (.bool (aI O v))/\w'=wx):=fun wx kx=>je O h'.ao h'.cap v wx (ii.still HX.out (HW.out.kept.trans kx)) (by omega)
     obtain⟨hs,Hhs⟩:∃hs,Hid (aI O v=hs):=⟨_,rfl⟩
     rw[Hhs.out]at HAM HP;have hOw:=HW.out.own
     cases ac
     ·have HM:=(show Hid _ from HZ.out (by rw[HP.out];rfl))
      go_wp2_with (go_at_call 92;refine Calls.mono HAC.out ?_;rintro e w9 ⟨rfl,hw9⟩;rw[hw9];clear hw9)
      go_roundg (k-(m+1))
      case measure=>omega
      case rel=>exact⟨m+1,h2,L,by omega,rfl,rfl,by go_num,by omega,HM,HW⟩
     ·cases h1:(sk.toList == [36,101])
      ·cases h3:(sk.toList == [36,102])
       ·have HM:=(show Hid _ from HZ.out (by rw[HP.out,h1,h3];rfl))
        go_wp2_with (go_at_call 92;refine Calls.mono HAC.out ?_;rintro e w9 ⟨rfl,hw9⟩;rw[hw9];clear hw9)
        go_roundg (k-(m+1))
        case measure=>omega
        case rel=>exact⟨m+1,h2,L,by omega,rfl,rfl,by go_num,by omega,HM,HW⟩
       ·have hfl:=HFl.out h3
        obtain⟨gT,rfl,hgT,t0,-⟩:=HDr.out.t.2 (sh+1) _ (fZ T (sh+1) hfl);replace t0:wr.cell? ⟨gT,(sh+1)*5,none⟩=some (.string (tS T (sh+1))):=t0;rw[Hv.out]at t0;have hfi:(sh:Int)+1<(T.length:Int):=by omega
        have hsw:IntKind.i64.wrap ((sh:Int)+1)=(sh:Int)+1:=by rw[IntKind.wrap_i64];omega
        have hsn:((sh:Int)+1).toNat=sh+1:=by omega
        have hs0:(0:Int)<=(sh:Int)+1:=by omega
        go_upto_region 17 with (go_at_call 92;refine Calls.mono HAC.out ?_;rintro e w9 ⟨rfl,hw9⟩;rw[hw9];clear hw9)
        have HWd:=(show Hid _ from HW.out.still (ab.refl [] wr).drew);have hOwd:=HWd.out.own
        go_region_with (go_at_call 93;refine(HAM.out _ (by exact(ab.refl [] wr).drew)).mono ?_;rintro e w9 ⟨rfl,hw9⟩;rw[hw9];clear hw9)
        all_goals
         clear c0 q2 t0
         cases hs
         ·have HM:=(show Hid _ from HZ.out (by rw[HP.out,h1,h3];rfl))
          go_wp2
          go_roundg (k-(m+1))
          case measure=>omega
          case rel=>exact⟨m+1,h2,L,by omega,rfl,rfl,by go_num,by omega,HM,HWd⟩
         ·have HM:=(show Hid _ from HY.out (by rw[HP.out,h1,h3];rfl))
          go_wp2_with (at_builtin;refine ma _ rfl (.tmp 93) (.tmp 95) 26 rfl iN (.int .i64 0) 8 h2 (bq L) [.int .i64 m] Tryz.underlying26 hiN hzN0 hzN1 hzN2 rfl Nat.one_pos rfl hOwd (by simp only[bq];omega) (by omega) rfl rfl (by simp[Value.oneCell']) ?_;intro h5 w5 hw5 hg5;rw[qh]at hw5;have HM2:=(show Hid _ from HWd.out.grew hg5 hw5);clear hw5 hg5)
          go_roundg (k-(m+1))
          case measure=>omega
          case rel=>exact⟨m+1,h5,L++[m],by omega,rfl,by simp[bq],by go_num,by simp;omega,HM,HM2⟩
      ·have HM:=(show Hid _ from HY.out (by rw[HP.out,h1];rfl))
       have h3:(sk.toList == [36,102])=false:=by
        cases h:(sk.toList == [36,102])
        ·rfl
        ·exact(Js h1 h).elim
       go_wp2_with (first | (go_at_call 92;refine Calls.mono HAC.out ?_;rintro e w9 ⟨rfl,hw9⟩;rw[hw9];clear hw9) | (at_builtin;refine ma _ rfl (.tmp 93) (.tmp 95) 26 rfl iN (.int .i64 0) 8 h2 (bq L) [.int .i64 m] Tryz.underlying26 hiN hzN0 hzN1 hzN2 rfl Nat.one_pos rfl hOw (by simp only[bq];omega) (by omega) rfl rfl (by simp[Value.oneCell']) ?_;intro h5 w5 hw5 hg5;rw[qh]at hw5;have HM2:=(show Hid _ from HW.out.grew hg5 hw5);clear hw5 hg5))
       go_roundg (k-(m+1))
       case measure=>omega
       case rel=>exact⟨m+1,h5,L++[m],by omega,rfl,by simp[bq],by go_num,by simp;omega,HM,HM2⟩
    ·have e:m=k:=by omega
     subst e;rw[<-HR.out]at HE;have HEE:Hid (cD T S m=L):=HE.out.symm;go_wp2;go_ret;exact⟨h2,by rw[HEE.out];rfl,by rw[HEE.out];exact HW.out.base HKW.out⟩
end Go.Proofs.YtpddjjabfbfifaaGreat

import Derived.Test.YtpddjjabfbfifaaGreatG18
import Derived.Test.YtpddjjabfbfifaaGreatG40
import Derived.Test.YtpddjjabfbfifaaGreatG42
namespace Go.Proofs.YtpddjjabfbfifaaGreat
open Go.RowKit
set_option maxHeartbeats 40000000
theorem ke.piece{fs:Fs}(h:ke fs)(o n:Nat):ke ((fs.drop o).take n):=by
 intro j;have h1:=h (o+j);unfold aC aj at *;rw[List.getD_eq_getElem?_getD]at *;rw[List.getElem?_take]
 split
 ·rw[List.getElem?_drop];exact h1
 ·exact⟨by show(0:Nat)<=_;omega,by show(0:Nat)<=_;omega⟩
def Ae(w:World)(x m:Nat)(h:Hd)(fs:Fs)(e:Ending)(w':World):Prop :=
 e=.returned (.bool true)/\bW w' x fs/\(∃h',cW w' m h' fs/\∀q,h'.blk=some q->h.blk=some q∨w.heap.size<=q)/\ab ([x]++m :: h.blk.toList) w w'
theorem cW.kept{S:List Nat}{w w':World}{v:Nat}{h:Hd}{fs:Fs}(a:cW w v h fs)(k:ab S w w')(hv:v∉S)(hh:∀q,h.blk=some q->q∉S):cW w' v h fs:=by
 obtain⟨on,p2,p3,p4,a⟩:=a;exact⟨on,p2,p3,p4,a.keptS k hv hh⟩
theorem jM.srcF{w:World}{b:Nat}{fs:Fs}(h:w.heap[b]?=some (.cells (oD fs).toArray 68 (0,0))):lO w (some ⟨b,0,none⟩) fs.length fs:=by
 refine⟨Nat.le_refl _,fun k hk=>?_⟩;obtain⟨c0,c1⟩:=yZ h (o:=0) (k:=k) (by omega);rw[Nat.zero_mul,Nat.zero_add]at c0 c1;exact⟨b,rfl,ae h,by simpa using c0,by simpa using c1⟩
set_option maxRecDepth 100000 in
theorem yY(x m b o n e:Nat)(fs0 fs:Fs)(h:Hd)(w:World)(hx:bW w x fs0)(hm:cW w m h fs0)(hb:w.heap[b]?=some (.cells (oD fs).toArray 68 (0,0)))(hxm:x≠m)(hxh:h.blk≠some x)(hbx:b≠x)(hbm:b≠m)(hbh:h.blk≠some b)(hl:o+n+e<=fs.length)(hN:fs.length<=1073741824)(hf:ke fs) :
  Calls Tryz.prog 13 #[.pointer (some ⟨x,0,none⟩),.pointer (some ⟨m,0,none⟩),.slice (some ⟨b,0,none⟩) fs.length fs.length,.int .i64 o,.int .i64 n,.int .i64 e] w fun r w'=>Ae w x m h (js fs0 ((fs.drop o).take n)) r w':=by
 have HX:Hid (bW w x fs0):=hx;have HMm:Hid (cW w m h fs0):=hm;have HB:=(show Hid _ from hb);have xz:=hx.lt;have bz:=ae hb;have HF:=(show Hid (ke fs) from hf);have hPl:((fs.drop o).take n).length=n:=by rw[List.length_take,List.length_drop];omega
 have HSB:Hid (∀w',ab [] w w'->jM w' (some ⟨b,0,none⟩) fs):=fun w' k=>(gC.src (a:=some b) ⟨(fun e=>by cases e),fun q e=>by cases e;exact k.get hb (by simp)⟩)
 have HSP:Hid (∀w1 ad,ab [] w w1->(n=0∨ad=⟨b,o*2,none⟩)->jM w1 (some ad) ((fs.drop o).take n)):=fun w1 ad k had=>by
  rcases had with e | e
  ·rw[e];intro j hj;rw[List.take_zero]at hj;cases hj
  ·rw[e];exact gC.piece (k.get hb (by simp)) o n (by omega)
 have HC1:Hid (Calls Tryz.prog 29 #[.slice (some ⟨b,0,none⟩) fs.length fs.length] w _):=iE _ fs.length fs w (HSB.out w (ab.refl _ _)) hN
 have HC2:Hid (∀w1 c ad,ab [] w w1->(n=0∨ad=⟨b,o*2,none⟩)->Calls Tryz.prog 29 #[.slice (some ad) n c] w1 fun e w'=>e=.returned (.slice (some ⟨w1.heap.size,0,none⟩) n n)/\w'.heap[w1.heap.size]?=some (.cells (oD ((fs.drop o).take n)).toArray 68 (0,0))/\ab [] w1 w'):=fun w1 c ad k had=>by
  have:=iE (some ad) c ((fs.drop o).take n) w1 (HSP.out w1 ad k had) (by rw[hPl];omega);rw[hPl]at this;exact this
 have HXL:Hid (∀w2 c ad,ab [] w w2->(n=0∨ad=⟨b,o*2,none⟩)->Calls Tryz.prog 30 #[.pointer (some ⟨x,0,none⟩),.slice (some ad) n c] w2 fun e w'=>e=.returned (.int .i64 (fZ ((fs.drop o).take n)))/\bW w' x (js fs0 ((fs.drop o).take n))/\ab [x] w2 w'):=fun w2 c ad k had=>by
  have:=wt x fs0 ((fs.drop o).take n) (some ad) c w2 (hx.kept k (by simp)) (HSP.out w2 ad k had) (hf.piece o n);rw[hPl]at this;exact this
 have HML:Hid (∀w3 B2,cW w3 m h fs0->w3.heap[B2]?=some (.cells (oD ((fs.drop o).take n)).toArray 68 (0,0))->Calls Tryz.prog 31 #[.pointer (some ⟨m,0,none⟩),.slice (some ⟨B2,0,none⟩) n n] w3 fun e w'=>e=.returned (.int .i64 (fZ ((fs.drop o).take n)))/\JV w3 m h (js fs0 ((fs.drop o).take n)) w'):=fun w3 B2 hr hb2=>by
  obtain⟨on,p2,p3,p4,hr⟩:=hr;have:=tZ m fs0 ((fs.drop o).take n) h on p2 p3 p4 (some ⟨B2,0,none⟩) ((fs.drop o).take n).length w3 hr (jM.srcF hb2) (fun e=>by cases e) (fun ad e=>by cases e;exact⟨_,rfl⟩) (fun j _=>hf.piece o n j);rw[hPl]at this;exact this
 have HMZ:Hid (m<w.heap.size/\∀q,h.blk=some q->q<w.heap.size):=by
  obtain⟨on,p2,p3,p4,hr⟩:=hm;exact⟨ae hr.d,fun q hq=>hr.own.lt hq⟩
 generalize js fs0 ((fs.drop o).take n)=fs1 at *;generalize fZ ((fs.drop o).take n)=r at *;generalize (fs.drop o).take n=P at *;have ho1:(o:Int)+(n:Int)<=(fs.length:Int):=by omega
 have ho2:(o:Int)+(n:Int)+(e:Int)<=(fs.length:Int):=by omega
 have hN2:(fs.length:Int)<=1073741824:=by omega
 have HD:Hid (x≠m/\h.blk≠some x/\b≠x/\b≠m/\h.blk≠some b):=⟨hxm,hxh,hbx,hbm,hbh⟩;have HMY:Hid (∀q,h.blk=some q->q<w.heap.size):=HMZ.out.2;clear hx hm hb hf hxm hxh hbx hbm hbh hPl;have hcase:(n=0/\e=0/\fs.length=o)∨(n=0/\e=0/\¬fs.length=o)∨(¬n+e=0/\¬fs.length=o):=by omega
 rcases hcase with ⟨rfl,rfl,rfl⟩ | ⟨rfl,rfl,hoc⟩ | ⟨hne,hoc⟩
 all_goals
  go_enter Tryz.func13,Tryz.ntmps13
  go_upto_region 2 with (go_at_call 29;refine Calls.mono HC1.out ?_;rintro e1 w1 ⟨rfl,hb1,k1⟩)
  go_upto_region 3 with (go_at_call 29;refine Calls.mono (HC2.out w1 _ _ k1 (by first | exact Or.inl trivial | exact Or.inl rfl | exact Or.inr rfl)) ?_;rintro e2 w2 ⟨rfl,hb2,k2⟩)
  have HK2:=(show Hid _ from k1.trans k2);have HB1:=(show Hid _ from k2.get hb1 (by simp));have HB2:=(show Hid _ from hb2);have HZ1:Hid (w.heap.size<=w1.heap.size):=k1.size;clear hb1 hb2 k1 k2
  go_upto_region 4 with (go_at_call 30;refine Calls.mono (HXL.out w2 _ _ HK2.out (by first | exact Or.inl trivial | exact Or.inl rfl | exact Or.inr rfl)) ?_;rintro e3 w3 ⟨rfl,hx3,k3⟩)
  have HR3:Hid (cW w3 m h fs0):=(HMm.out.kept HK2.out (by simp) (fun _ _=>by simp)).kept k3 (by simp;exact Ne.symm HD.out.1) (fun q hq=>by simp;intro e;rw[e]at hq;exact HD.out.2.1 hq);have HB13:=(show Hid _ from k3.get HB1.out (by simp;omega));have HB23:=(show Hid _ from k3.get HB2.out (by have:=HZ1.out;simp;omega));have HBb3:=(show Hid _ from k3.get (HK2.out.get HB.out (by simp)) (by simp;exact HD.out.2.2.1));have HX3:Hid (bW w3 x fs1):=hx3;have HK3:=(show Hid _ from(HK2.out.mono (S':=[x]) (by simp)).trans k3);clear hx3 k3
  go_upto_region 5 with (go_at_call 31;refine Calls.mono (HML.out w3 _ HR3.out HB23.out) ?_;rintro e4 w4 ⟨rfl,h4,hr4,k4,b4⟩)
  have HR4:Hid (∃h',cW w4 m h' fs1/\∀q,h'.blk=some q->h.blk=some q∨w.heap.size<=q):=⟨h4,hr4,fun q hq=>(b4 q hq).elim Or.inl (fun z=>Or.inr (Nat.le_trans HK3.out.size z))⟩;have HX4:Hid (bW w4 x fs1):=HX3.out.kept k4 (by intro hq;rcases List.mem_cons.1 hq with e | hq;exact HD.out.1 e;exact HD.out.2.1 (aK hq));have HB14:=(show Hid _ from k4.get HB13.out (by intro hq;rcases List.mem_cons.1 hq with e | hq;have:=HMZ.out.1;omega;have:=HMZ.out.2 _ (aK hq);omega));have HBb4:=(show Hid _ from k4.get HBb3.out (by intro hq;rcases List.mem_cons.1 hq with e | hq;exact HD.out.2.2.2.1 e;exact HD.out.2.2.2.2 (aK hq)));have HK4:Hid (ab ([x]++m :: h.blk.toList) w w4):=(HK3.out.mono (S':=[x]++m :: h.blk.toList) (fun q hq _=>List.mem_append_left _ hq)).trans (k4.mono (fun q hq _=>List.mem_append_right _ hq));have HSF:=(show Hid _ from lT (some ⟨b,0,none⟩) (some ⟨w.heap.size,0,none⟩) fs.length fs.length fs w4 (gC.src (a:=some b) ⟨(fun e=>by cases e),fun q e=>by cases e;exact HBb4.out⟩) (gC.src (a:=some w.heap.size) ⟨(fun e=>by cases e),fun q e=>by cases e;exact HB14.out⟩) (by omega));clear hr4 k4 b4;go_wp2_with (go_at_call 26;refine Calls.mono HSF.out ?_;rintro e5 w5 ⟨rfl,n5,hw5⟩);go_ret;have k5:ab [] w4 (w4.drewN n5):=(ab.refl [] _).drewN n5;obtain⟨h',hr',hq'⟩:=HR4.out;exact⟨rfl,HX4.out.kept k5 (by simp),⟨h',hr'.kept k5 (by simp) (fun _ _=>by simp),hq'⟩,HK4.out.trans (k5.mono (by simp))⟩
set_option maxRecDepth 100000 in
theorem AV(x m:Nat)(fs0:Fs)(h:Hd)(w:World)(hx:bW w x fs0)(hm:cW w m h fs0)(hxm:x≠m)(hxh:h.blk≠some x) :
  Calls Tryz.prog 13 #[.pointer (some ⟨x,0,none⟩),.pointer (some ⟨m,0,none⟩),.slice none 0 0,.int .i64 0,.int .i64 0,.int .i64 0] w fun r w'=>Ae w x m h (js fs0 []) r w':=by
 have HX:Hid (bW w x fs0):=hx;have HMm:Hid (cW w m h fs0):=hm;have xz:=hx.lt;have HS0:Hid (∀(w':World) ao,jM w' ao []):=fun w' ao j hj=>by cases hj
 have hf0:ke []:=fun j=>⟨by show(0:Nat)<=_;omega,by show(0:Nat)<=_;omega⟩
 have HC:Hid (∀w1,Calls Tryz.prog 29 #[.slice none 0 0] w1 fun e w'=>e=.returned (.slice (some ⟨w1.heap.size,0,none⟩) 0 0)/\w'.heap[w1.heap.size]?=some (.cells (oD []).toArray 68 (0,0))/\ab [] w1 w'):=fun w1=>iE none 0 [] w1 (HS0.out _ _) (by simp)
 have HXL:Hid (∀w2,ab [] w w2->Calls Tryz.prog 30 #[.pointer (some ⟨x,0,none⟩),.slice none 0 0] w2 fun e w'=>e=.returned (.int .i64 (fZ []))/\bW w' x (js fs0 [])/\ab [x] w2 w'):=fun w2 k=>wt x fs0 [] none 0 w2 (hx.kept k (by simp)) (HS0.out _ _) hf0
 have HML:Hid (∀w3 B2,cW w3 m h fs0->w3.heap[B2]?=some (.cells (oD []).toArray 68 (0,0))->Calls Tryz.prog 31 #[.pointer (some ⟨m,0,none⟩),.slice (some ⟨B2,0,none⟩) 0 0] w3 fun e w'=>e=.returned (.int .i64 (fZ []))/\JV w3 m h (js fs0 []) w'):=fun w3 B2 hr hb2=>by
  obtain⟨on,p2,p3,p4,hr⟩:=hr;exact tZ m fs0 [] h on p2 p3 p4 (some ⟨B2,0,none⟩) 0 w3 hr (jM.srcF hb2) (fun e=>by cases e) (fun ad e=>by cases e;exact⟨_,rfl⟩) (fun j hj=>by cases hj)
 have HMZ:Hid (m<w.heap.size/\∀q,h.blk=some q->q<w.heap.size):=by
  obtain⟨on,p2,p3,p4,hr⟩:=hm;exact⟨ae hr.d,fun q hq=>hr.own.lt hq⟩
 generalize js fs0 []=fs1 at *;generalize fZ []=r at *;have HD:Hid (x≠m/\h.blk≠some x):=⟨hxm,hxh⟩;clear hx hm hxm hxh hf0;go_enter Tryz.func13,Tryz.ntmps13
 go_upto_region 2 with (go_at_call 29;refine Calls.mono (HC.out w) ?_;rintro e1 w1 ⟨rfl,hb1,k1⟩)
 go_upto_region 3 with (go_at_call 29;refine Calls.mono (HC.out w1) ?_;rintro e2 w2 ⟨rfl,hb2,k2⟩)
 have HK2:=(show Hid _ from k1.trans k2);have HB2:=(show Hid _ from hb2);have HZ1:Hid (w.heap.size<=w1.heap.size):=k1.size;clear hb1 hb2 k1 k2
 go_upto_region 4 with (go_at_call 30;refine Calls.mono (HXL.out w2 HK2.out) ?_;rintro e3 w3 ⟨rfl,hx3,k3⟩)
 have HR3:Hid (cW w3 m h fs0):=(HMm.out.kept HK2.out (by simp) (fun _ _=>by simp)).kept k3 (by simp;exact Ne.symm HD.out.1) (fun q hq=>by simp;intro e;rw[e]at hq;exact HD.out.2 hq);have HB23:=(show Hid _ from k3.get HB2.out (by have:=HZ1.out;simp;omega));have HX3:Hid (bW w3 x fs1):=hx3;have HK3:=(show Hid _ from(HK2.out.mono (S':=[x]) (by simp)).trans k3);clear hx3 k3
 go_upto_region 5 with (go_at_call 31;refine Calls.mono (HML.out w3 _ HR3.out HB23.out) ?_;rintro e4 w4 ⟨rfl,h4,hr4,k4,b4⟩)
 have HR4:Hid (∃h',cW w4 m h' fs1/\∀q,h'.blk=some q->h.blk=some q∨w.heap.size<=q):=⟨h4,hr4,fun q hq=>(b4 q hq).elim Or.inl (fun z=>Or.inr (Nat.le_trans HK3.out.size z))⟩;have HX4:Hid (bW w4 x fs1):=HX3.out.kept k4 (by intro hq;rcases List.mem_cons.1 hq with e | hq;exact HD.out.1 e;exact HD.out.2 (aK hq));have HK4:Hid (ab ([x]++m :: h.blk.toList) w w4):=(HK3.out.mono (S':=[x]++m :: h.blk.toList) (fun q hq _=>List.mem_append_left _ hq)).trans (k4.mono (fun q hq _=>List.mem_append_right _ hq));have HSF:Hid (Calls Tryz.prog 26 #[.slice none 0 0,.slice (some ⟨w.heap.size,0,none⟩) 0 0] w4 _):=lT none (some ⟨w.heap.size,0,none⟩) 0 0 [] w4 (HS0.out _ _) (HS0.out _ _) (by simp);clear hr4 k4 b4;go_wp2_with (go_at_call 26;refine Calls.mono HSF.out ?_;rintro e5 w5 ⟨rfl,n5,hw5⟩);go_ret;have k5:ab [] w4 (w4.drewN n5):=(ab.refl [] _).drewN n5;obtain⟨h',hr',hq'⟩:=HR4.out;exact⟨rfl,HX4.out.kept k5 (by simp),⟨h',hr'.kept k5 (by simp) (fun _ _=>by simp),hq'⟩,HK4.out.trans (k5.mono (by simp))⟩
theorem yB(fs:Fs)(k:Nat)(hfl:fs.length<=4)(hsz:∀j,j<fs.length->(aj fs j).size<=1024)(hk:k<fs.length)(h:((gq fs k).1==0)=true):gq fs k=cJ:=by
 have h':=h;unfold gq at h
 split at h
 ·next hu =>
  have e:(Gm (vI (da fs k).1 (LS (da fs k).1))).1=(vI (da fs k).1 (LS (da fs k).1)).rule:=rfl;rw[e,hu]at h
  cases h
 ·next hu =>
  exact(tG fs k hfl hsz hk (by cases q:((vI (da fs k).1 (LS (da fs k).1)).rule==0);exact absurd q hu;rfl) h).1
def Kh(w:World)(x m:Nat)(h:Hd)(fs:Fs)(e:Ending)(w':World):Prop :=
 e=.returned (.bool true)/\bW w' x fs/\cW w' m h fs/\ab ([x]++m :: h.blk.toList) w w'
theorem FW(x m:Nat)(fs:Fs)(h:Hd)(n:ByteArray)(w:World)(hx:bW w x fs)(hm:cW w m h fs)(hsz:∀j,j<fs.length->(aj fs j).size<=1024) :
  ∃(r:Int) (s:ByteArray) (l c q:Int),Calls Tryz.prog 36 #[.pointer (some ⟨x,0,none⟩),.string n] w (fun e w'=>e=.returned (.tuple #[.agg #[.int .i64 r,.string s,.int .i64 l,.int .i64 c],.int .i64 q])/\bW w' x fs/\ab [x] w w') /\
   ∀w2,cW w2 m h fs->Calls Tryz.prog 37 #[.pointer (some ⟨m,0,none⟩),.string n] w2 (fun e w'=>e=.returned (.tuple #[.agg #[.int .i64 r,.string s,.int .i64 l,.int .i64 c],.int .i64 q])/\cW w' m h fs/\ab [m] w2 w'):=by
 rcases nE n fs with hf | ⟨k,hk,hf⟩
 ·refine⟨0,⟨#[]⟩,0,0,5,(zW x fs n w hx (by rw[hf];decide)).mono (fun e w' h=>h),fun w2 h2=>?_⟩
  obtain⟨on,p2,p3,p4,h2⟩:=h2;exact(vt m fs h on p2 p3 p4 n w2 h2 (by rw[hf];decide)).mono (fun e w' h=>h)
 ·have hle:fs.length<=4:=by obtain⟨on,p2,p3,p4,h2⟩:=hm;exact h2.le
  obtain⟨e1,-⟩:=yC fs k hle hsz hk;refine⟨(gq fs k).1,(gq fs k).2.file,(gq fs k).2.line,(gq fs k).2.col,(if((gq fs k).1==0)=true then 0 else 6),(Cb x k fs n w hx hf hk hsz).mono (fun e w' h=>?_),fun w2 h2=>?_⟩
  ·obtain⟨h1,h2⟩:=h
   rw[e1]at h1
   split at h1
   ·next q =>
    obtain⟨h1,H,g,h3,-⟩:=h1;rw[if_pos q,h1,yB fs k hle hsz hk q];exact⟨rfl,h3.anyR,h2⟩
   ·next q =>
    rw[if_neg q,h1.1];exact⟨rfl,h1.2.anyR,h2⟩
  ·obtain⟨on,p2,p3,p4,h2⟩:=h2
   exact(xO m k fs h on p2 p3 p4 n w2 h2 hf hk hsz).mono (fun e w' h=>h)
set_option maxRecDepth 100000 in
theorem xN(x m:Nat)(fs:Fs)(h:Hd)(n:ByteArray)(w:World)(hx:bW w x fs)(hm:cW w m h fs)(hsz:∀j,j<fs.length->(aj fs j).size<=1024)(hxm:x≠m)(hxh:h.blk≠some x) :
  Calls Tryz.prog 16 #[.pointer (some ⟨x,0,none⟩),.pointer (some ⟨m,0,none⟩),.string n] w fun e w'=>Kh w x m h fs e w':=by
 obtain⟨r,s,l,c,q,h1,h2⟩:=FW x m fs h n w hx hm hsz;have H1:=(show Hid _ from h1);have H2:=(show Hid _ from h2);have HMm:Hid (cW w m h fs):=hm;have HD:Hid (x≠m/\h.blk≠some x):=⟨hxm,hxh⟩;have HZ:Hid (x<w.heap.size/\m<w.heap.size):=⟨hx.lt,by obtain⟨on,p2,p3,p4,hr⟩:=hm;exact ae hr.d⟩;clear h1 h2 hx hm hxm hxh;go_enter Tryz.func16,Tryz.ntmps16
 go_upto_region 2 with (go_at_call 36;refine Calls.mono H1.out ?_;rintro e1 w1 ⟨rfl,hx1,k1⟩)
 obtain⟨W1,HW1⟩:∃W1,Hid (w1.alloc (.cells #[.int .i64 r,.string s,.int .i64 l,.int .i64 c] 87)=W1):=⟨_,rfl⟩
 have HK1:Hid (ab [] w1 W1):=by show ab _ _ _;rw[<-HW1.out];exact(ab.refl [] _).alloc _
 have HB1:Hid (W1.heap[w1.heap.size]?=some (.cells #[.int .i64 r,.string s,.int .i64 l,.int .i64 c] 87 (0,0))):=by show _=_;rw[<-HW1.out];exact heap_alloc_new _ _
 have HX1:Hid (bW W1 x fs):=hx1.kept HK1.out (by simp);have HKx:Hid (ab [x] w W1):=k1.trans (HK1.out.mono (by simp));have HR1:Hid (cW W1 m h fs):=HMm.out.kept HKx.out (by simp;exact Ne.symm HD.out.1) (fun q hq=>by simp;intro e;rw[e]at hq;exact HD.out.2 hq);have HZ1:Hid (w.heap.size<=w1.heap.size):=k1.size;rw[HW1.out];clear hx1 k1
 go_upto_region 3 with (go_at_call 37;refine Calls.mono (H2.out W1 HR1.out) ?_;rintro e2 w2 ⟨rfl,hr2,k2⟩)
 obtain⟨W2,HW2⟩:∃W2,Hid (w2.alloc (.cells #[.int .i64 r,.string s,.int .i64 l,.int .i64 c] 87)=W2):=⟨_,rfl⟩
 have HK2:Hid (ab [] w2 W2):=by show ab _ _ _;rw[<-HW2.out];exact(ab.refl [] _).alloc _
 have HB2:W2.heap[w2.heap.size]?=some (.cells #[.int .i64 r,.string s,.int .i64 l,.int .i64 c] 87 (0,0)):=by rw[<-HW2.out];exact heap_alloc_new _ _
 have HKm:Hid (ab [m] W1 W2):=k2.trans (HK2.out.mono (by simp));have HX2:Hid (bW W2 x fs):=HX1.out.kept HKm.out (by simp;exact HD.out.1);have HR2:Hid (cW W2 m h fs):=hr2.kept HK2.out (by simp) (fun _ _=>by simp);have hB12:=HKm.out.get HB1.out (by have:=HZ.out.2;have:=HZ1.out;simp;omega);have HKA:Hid (ab ([x]++m :: h.blk.toList) w W2):=(HKx.out.mono (fun q hq _=>List.mem_append_left _ hq)).trans (HKm.out.mono (fun q hq _=>List.mem_append_right _ (by rw[List.mem_singleton.1 hq];exact List.mem_cons_self)));rw[HW2.out];clear hr2 k2;obtain⟨⟨a0,a1,a2,a3⟩,-,az⟩:=lh hB12;obtain⟨⟨b0,b1,b2,b3⟩,-,bz⟩:=lh HB2;clear hB12 HB2;go_wp2;go_ret;exact⟨rfl,HX2.out,HR2.out,HKA.out⟩
theorem wa{w:World}{h:Hd}{t:Nat}{L:List Nat}(o:aA w h (j4 t L)){k x:Nat}(hk:L[k]?=some x):∃g,h.ao=some ⟨g,0,none⟩/\g<w.heap.size/\w.cell? ⟨g,k,none⟩=some (Jw x):=by
 have hl:=(List.getElem?_eq_some_iff.1 hk).1
 rcases o.ways with ⟨_,h0,_⟩ | ⟨g,cur,e1,e2,e3,-⟩
 ·have h0:L.length=0:=h0
  omega
 ·exact⟨g,e1,ae e2,o.cell e1 k (Jw x) (by show(L.map Jw)[k]?=_;rw[List.getElem?_map,hk];rfl)⟩
def wE(fs:Fs):Prop:=∀j,j<fs.length->(aj fs j).size<=1024
theorem F3{n d:ByteArray}(h:cn n d=0):d.size<=1024:=by
 unfold cn at h
 split at h
 ·cases h
 ·split at h
  ·cases h
  ·omega
theorem KO{fs:Fs}(h:wE fs)(n d:ByteArray):wE (gy fs n d).2:=by
 unfold gy
 split
 ·exact h
 ·next hc =>
  have hd:=F3 (Decidable.not_not.1 hc)
  split
  ·intro j hj
   rw[List.length_set]at hj;have:=h j hj;unfold aj at *;rw[List.getD_eq_getElem?_getD]at *;rw[List.getElem?_set]
   split
   ·split
    ·exact hd
    ·show(0:Nat)<=_;omega
   ·exact this
  ·split
   ·exact h
   ·intro j hj
    rw[List.length_append]at hj;replace hj:j<fs.length+1:=hj;unfold aj;rw[List.getD_eq_getElem?_getD]
    by_cases e:j<fs.length
    ·have:=h j e
     unfold aj at this;rw[List.getD_eq_getElem?_getD]at this;rw[List.getElem?_append_left e];exact this
    ·rw[List.getElem?_append_right (by omega),show j-fs.length=0 by omega];exact hd
theorem GA{fs0:Fs}(h:wE fs0)(fs:Fs):wE (js fs0 fs):=by
 unfold js
 split
 ·next e=>exact(Ji e).2
 ·exact h
theorem bM.both{w w':World}{b N i x m:Nat}{h h':Hd}{fs fs1:Fs}{I:Nat×Nat->It}{M:Mc}(a:bM w b I M N)(hi:M.V[i]?=some (x,m,fs))(h7:I (7,i)=J8 m h fs)(hx:bW w' x fs1)(hm:cW w' m h' fs1)(hb:∀q,h'.blk=some q->h.blk=some q∨w.heap.size<=q)(k:ab ([x]++m :: h.blk.toList) w w')(hf:wE fs1):∃I' M',bM w' b I' M' (N+1)/\I' (10,0)=I (10,0):=by
 obtain⟨h6,-,-⟩:=a.v i x m fs hi;have hx0:x<w.heap.size:=(Kv x fs).lt w (by have:=a.sep.all (6,i);rw[h6]at this;exact this) x (List.mem_singleton.2 rfl);have hfar:x∉m :: h.blk.toList:=fun hq=>a.sep.far (6,i) (7,i) (bA (by decide)) x (by rw[h6];exact List.mem_singleton.2 rfl) (by rw[h7];exact hq)
 have s:=a.sep.put2 (6,i) (7,i) (bA (by decide)) (Kv x fs1) (J8 m h' fs1) (by rw[h6,h7];exact k) hx hm (fun q hq=>by rw[h6];exact Or.inl hq) (fun q hq=>by
  rw[h7]
  rcases List.mem_cons.1 hq with e | e
  ·exact Or.inl (by rw[e];exact List.mem_cons_self)
  ·rcases hb q (aK e) with e2 | e2
   ·exact Or.inl (List.mem_cons_of_mem _ (by rw[e2];simp))
   ·exact Or.inr e2) (fun q hq hq2=>by
  rw[List.mem_singleton.1 hq]at hq2
  rcases List.mem_cons.1 hq2 with e | e
  ·exact hfar (by rw[e];exact List.mem_cons_self)
  ·rcases hb x (aK e) with e2 | e2
   ·exact hfar (List.mem_cons_of_mem _ (by rw[e2];simp))
   ·omega)
 have e1:∀f:Nat×Nat×Fs->Nat,f (x,m,fs1)=f (x,m,fs)->(M.V.set i (x,m,fs1)).map f=M.V.map f:=fun f hf=>by
  rw[List.map_set,hf]
  apply List.ext_getElem?
  intro j;rw[List.getElem?_set]
  by_cases ej:i=j
  ·subst ej
   have:=(List.getElem?_eq_some_iff.1 hi).1;rw[if_pos rfl,List.getElem?_map,hi];simp[this]
  ·rw[if_neg ej]
 refine⟨_,{ M with V:=M.V.set i (x,m,fs1) },⟨s,?_,?_,?_,?_,?_,?_,?_,?_,?_,?_,?_⟩,?_⟩
 ·rw[aq _ _ (bA (by decide)),aq _ _ (bA (by decide)),a.w0];unfold Mc.cells;rw[List.length_set]
 ·rw[aq _ _ (bA (by decide)),aq _ _ (bA (by decide)),e1 _ rfl];exact a.x
 ·rw[aq _ _ (bA (by decide)),aq _ _ (bA (by decide)),e1 _ rfl];exact a.m
 ·simp only[ff];exact a.r
 ·simp only[ff];exact a.ls
 ·simp only[ff];exact a.lw
 ·intro j y n fs2 hj
  replace hj:(M.V.set i (x,m,fs1))[j]?=some (y,n,fs2):=hj;rw[List.getElem?_set]at hj;rw[aq _ _ (bA (by decide))]
  by_cases e:i=j
  ·subst e
   rw[if_pos rfl,if_pos (List.getElem?_eq_some_iff.1 hi).1]at hj
   cases hj
   rw[bS,bS];exact⟨rfl,⟨_,rfl⟩,hf⟩
  ·rw[if_neg e]at hj
   rw[aq _ _ (tX (Ne.symm e)),aq _ _ (tX (Ne.symm e)),aq _ _ (bA (by decide))];exact a.v j y n fs2 hj
 ·intro j y n fs2 hj
  simp only[ff];exact a.more.l j y n fs2 hj
 ·exact a.fit
 ·obtain⟨l1,l2,l3⟩:=a.more.len
  exact⟨by show(M.V.set i (x,m,fs1)).length<=_;rw[List.length_set];exact l1,l2,l3⟩
 ·exact a.rng
 ·simp only[ff];rfl
set_option maxRecDepth 100000 in
theorem fH(b N:Nat)(I:Nat×Nat->It)(M:Mc)(k A C D:Int)(s t:ByteArray)(w:World)(h:bM w b I M N)
  (hl:∀W,bM W b I M N->Calls Tryz.prog 11 #[.pointer (some ⟨b,0,none⟩),.agg #[.int .i64 k,.int .i64 A,.int .i64 C,.int .i64 D,.string s,.string t]] W fun e w'=>go b I N true e w') :
  Calls Tryz.prog 9 #[.pointer (some ⟨b,0,none⟩),.agg #[.int .i64 k,.int .i64 A,.int .i64 C,.int .i64 D,.string s,.string t]] w fun e w'=>go b I N true e w':=by
 obtain⟨W,HW⟩:∃W,Hid (w.alloc (.cells #[.int .i64 k,.int .i64 A,.int .i64 C,.int .i64 D,.string s,.string t] 28)=W):=⟨_,rfl⟩
 obtain⟨hM,hB,hbw,-⟩:=h.boxed k A C D s t W HW.out;obtain⟨o0,o1,o2,o3,o4,o5,oz⟩:=dZ hB;have HL:=(show Hid _ from hl W hM);clear h hM hB hl;go_enter Tryz.func9,Tryz.ntmps9
 go_upto_region 1 with fail
 rw[HW.out];go_wp2_with (go_at_call 11;refine Calls.mono HL.out ?_;rintro e w1 ⟨rfl,h1⟩);go_ret;exact⟨rfl,h1⟩
structure jO(W:World)(b B:Nat)(I:Nat×Nat->It)(M:Mc)(N:Nat)(k A C D:Int)(s t:ByteArray):Prop where
 m:bM W b I M N
 o:W.heap[B]?=some (.cells #[.int .i64 k,.int .i64 A,.int .i64 C,.int .i64 D,.string s,.string t] 28 (0,0))
theorem jO.still{W W':World}{b B N:Nat}{I:Nat×Nat->It}{M:Mc}{k A C D:Int}{s t:ByteArray}(a:jO W b B I M N k A C D s t)(h:ab [] W W'):jO W' b B I M N k A C D s t:=⟨a.m.still h,h.get a.o (by simp)⟩
set_option maxRecDepth 100000 in
theorem E5(b N:Nat)(I:Nat×Nat->It)(M:Mc)(k A C D:Int)(s t:ByteArray)(w:World)(h:bM w b I M N)(hk:(8<=k/\k<=14)∨19<=k)(hV:M.V.length=0) :
  Calls Tryz.prog 9 #[.pointer (some ⟨b,0,none⟩),.agg #[.int .i64 k,.int .i64 A,.int .i64 C,.int .i64 D,.string s,.string t]] w fun e w'=>go b I N true e w':=by
 obtain⟨W,HW⟩:∃W,Hid (w.alloc (.cells #[.int .i64 k,.int .i64 A,.int .i64 C,.int .i64 D,.string s,.string t] 28)=W):=⟨_,rfl⟩
 obtain⟨hM,hB,hbw,-⟩:=h.boxed k A C D s t W HW.out;obtain⟨o0,o1,o2,o3,o4,o5,oz⟩:=dZ hB;have HL:=(show Hid _ from mH b N I M k A C D s t W hM hk);have HM:Hid (bM W b I M N):=hM;clear h hM hB hk;go_enter Tryz.func9,Tryz.ntmps9
 go_upto_region 1 with fail
 rw[HW.out]
 go_upto_region 2 with (go_at_call 11;refine Calls.mono HL.out ?_;rintro e w1 ⟨rfl,k1⟩)
 have HM1:Hid (bM w1 b I M N):=HM.out.still k1;have c0:w1.cell? ⟨b,0,none⟩=some (.slice M.hx.ao M.V.length M.hx.cap):=by rw[aa HM1.out.blk];rfl
 rw[hV]at c0;have bz:=ae HM1.out.blk;go_wp2;go_ret;exact⟨rfl,_,_,HM1.out.more,rfl⟩
theorem bM.ver{w:World}{b N:Nat}{I:Nat×Nat->It}{M:Mc}(a:bM w b I M N){i:Nat}(hi:i<M.V.length) :
  ∃x m fs h g1 g2,M.V[i]?=some (x,m,fs)/\I (7,i)=J8 m h fs/\wE fs/\(bW w x fs/\cW w m h fs/\x≠m/\h.blk≠some x)/\(M.hx.ao=some ⟨g1,0,none⟩/\g1<w.heap.size/\w.cell? ⟨g1,i,none⟩=some (.pointer (some ⟨x,0,none⟩)))/\(M.hm.ao=some ⟨g2,0,none⟩/\g2<w.heap.size/\w.cell? ⟨g2,i,none⟩=some (.pointer (some ⟨m,0,none⟩))):=by
 obtain⟨⟨x,m,fs⟩,hx⟩:∃y,M.V[i]?=some y:=⟨M.V[i],List.getElem?_eq_getElem hi⟩
 obtain⟨h6,⟨h,h7⟩,hok⟩:=a.v i x m fs hx;obtain⟨g1,e1,z1,c1⟩:=wa a.ownX (k:=i) (x:=x) (by rw[List.getElem?_map,hx];rfl);obtain⟨g2,e2,z2,c2⟩:=wa a.ownM (k:=i) (x:=m) (by rw[List.getElem?_map,hx];rfl);have p6:=a.sep.all (6,i);have p7:=a.sep.all (7,i);rw[h6]at p6;rw[h7]at p7;have hfar:x∉m :: h.blk.toList:=fun hq=>a.sep.far (6,i) (7,i) (bA (by decide)) x (by rw[h6];exact List.mem_singleton.2 rfl) (by rw[h7];exact hq)
 exact⟨x,m,fs,h,g1,g2,hx,h7,hok,⟨p6,p7,fun e=>hfar (by rw[e];exact List.mem_cons_self),fun e=>hfar (List.mem_cons_of_mem _ (by rw[e];simp))⟩,⟨e1,z1,c1⟩,e2,z2,c2⟩
set_option maxRecDepth 100000 in
theorem KR(b N:Nat)(I:Nat×Nat->It)(M:Mc)(A C D:Int)(s t:ByteArray)(w:World)(h:bM w b I M N)(hV:M.V.length≠0)(hA:qC A)(hN:N<=1073741824) :
  Calls Tryz.prog 9 #[.pointer (some ⟨b,0,none⟩),.agg #[.int .i64 10,.int .i64 A,.int .i64 C,.int .i64 D,.string s,.string t]] w fun e w'=>go b I N true e w':=by
 obtain⟨W,HW⟩:∃W,Hid (w.alloc (.cells #[.int .i64 10,.int .i64 A,.int .i64 C,.int .i64 D,.string s,.string t] 28)=W):=⟨_,rfl⟩
 obtain⟨hM,hB,hbw,-⟩:=h.boxed 10 A C D s t W HW.out;obtain⟨o0,o1,o2,o3,o4,o5,oz⟩:=dZ hB;have HL:=(show Hid _ from mH b N I M 10 A C D s t W hM (by omega));have HS:Hid (jO W b w.heap.size I M N 10 A C D s t):=⟨hM,hB⟩;have hVl:=h.len.1;have HPK:Hid (∀wx,Calls Tryz.prog 12 #[.int .i64 A,.int .i64 M.V.length] wx fun e w'=>e=.returned (.int .i64 (f8 A M.V.length:Nat))/\w'=wx):=fun wx=>ij A M.V.length wx hA ⟨by omega,by omega⟩
 have hil:=ju A M.V.length (by omega);obtain⟨i,Hi⟩:∃i,Hid (f8 A M.V.length=i):=⟨_,rfl⟩
 rw[Hi.out]at HPK hil;have hVi:((M.V.length:Int)==0)=false:=beq_eq_false_iff_ne.2 (by omega);have hii:(i:Int)<(M.V.length:Int):=by omega
 clear h hM hB;go_enter Tryz.func9,Tryz.ntmps9
 go_upto_region 1 with fail
 rw[HW.out]
 go_upto_region 2 with (go_at_call 11;refine Calls.mono HL.out ?_;rintro e w1 ⟨rfl,k1⟩)
 have HS1:Hid (jO w1 b w.heap.size I M N 10 A C D s t):=HS.out.still k1;clear o0 o1 o2 o3 o4 o5 oz k1;obtain⟨o0,o1,-⟩:=dZ HS1.out.o;have oz:=ae HS1.out.o;have c0:w1.cell? ⟨b,0,none⟩=some (.slice M.hx.ao M.V.length M.hx.cap):=by rw[aa HS1.out.m.blk];rfl
 have bz:=ae HS1.out.m.blk
 go_upto_region 4 with fail
 go_quiet ((go_at_call 12;exact Calls.quiet_of_same (HPK.out _)))
 go_upto_region 5 with fail
 obtain⟨w2,Hw2⟩:∃w2,Hid (w1.drewN nq=w2):=⟨_,rfl⟩
 rw[Hw2.out];have HS2:Hid (jO w2 b w.heap.size I M N 10 A C D s t):=HS1.out.still (by rw[<-Hw2.out];exact(ab.refl [] _).drewN nq);clear o0 o1 oz c0 bz;obtain⟨o0,o1,o2,o3,o4,o5,oz⟩:=dZ HS2.out.o;obtain⟨x,m,fs,hd,g1,g2,hxi,h7,hok,⟨hx,hm,hxm,hxh⟩,⟨e1,z1,d1⟩,e2,z2,d2⟩:=HS2.out.m.ver hil;have c0:w2.cell? ⟨b,0,none⟩=some (.slice M.hx.ao M.V.length M.hx.cap):=by rw[aa HS2.out.m.blk];rfl
 have c1:w2.cell? ⟨b,1,none⟩=some (.slice M.hm.ao M.V.length M.hm.cap):=by rw[aa HS2.out.m.blk];rfl
 rw[e1]at c0;rw[e2]at c1;have bz:=ae HS2.out.m.blk;have HVF:=(show Hid _ from xN x m fs hd s w2 hx hm hok hxm hxh);have HXI:=(show Hid _ from hxi);have H7:=(show Hid _ from h7);have HOK:Hid (wE fs):=hok;clear hxi h7 hok hx hm hxm hxh e1 e2;go_wp2_with (go_at_call 16;refine Calls.mono HVF.out ?_;rintro e w3 ⟨rfl,q1,q2,q3⟩);go_ret;exact⟨rfl,HS2.out.m.both HXI.out H7.out q1 q2 (fun q hq=>Or.inl hq) q3 HOK.out⟩
set_option maxRecDepth 100000 in
theorem Ly(b N:Nat)(I:Nat×Nat->It)(M:Mc)(A C D:Int)(s t:ByteArray)(w:World)(h:bM w b I M N)(hV:M.V.length≠0)(hA:qC A)(hN:N<=1073741824)(hs:s.size<=1073741824)(ht:t.size<=1073741824) :
  Calls Tryz.prog 9 #[.pointer (some ⟨b,0,none⟩),.agg #[.int .i64 9,.int .i64 A,.int .i64 C,.int .i64 D,.string s,.string t]] w fun e w'=>go b I N true e w':=by
 obtain⟨W,HW⟩:∃W,Hid (w.alloc (.cells #[.int .i64 9,.int .i64 A,.int .i64 C,.int .i64 D,.string s,.string t] 28)=W):=⟨_,rfl⟩
 obtain⟨hM,hB,hbw,-⟩:=h.boxed 9 A C D s t W HW.out;obtain⟨o0,o1,o2,o3,o4,o5,oz⟩:=dZ hB;have HL:=(show Hid _ from mH b N I M 9 A C D s t W hM (by omega));have HS:Hid (jO W b w.heap.size I M N 9 A C D s t):=⟨hM,hB⟩;have hVl:=h.len.1;have HPK:Hid (∀wx,Calls Tryz.prog 12 #[.int .i64 A,.int .i64 M.V.length] wx fun e w'=>e=.returned (.int .i64 (f8 A M.V.length:Nat))/\w'=wx):=fun wx=>ij A M.V.length wx hA ⟨by omega,by omega⟩
 have hil:=ju A M.V.length (by omega);obtain⟨i,Hi⟩:∃i,Hid (f8 A M.V.length=i):=⟨_,rfl⟩
 rw[Hi.out]at HPK hil;have hVi:((M.V.length:Int)==0)=false:=beq_eq_false_iff_ne.2 (by omega);have hii:(i:Int)<(M.V.length:Int):=by omega
 have HM0:Hid (bM w b I M N):=h;clear h hM hB;go_enter Tryz.func9,Tryz.ntmps9
 go_upto_region 1 with fail
 rw[HW.out]
 go_upto_region 2 with (go_at_call 11;refine Calls.mono HL.out ?_;rintro e w1 ⟨rfl,k1⟩)
 have HS1:Hid (jO w1 b w.heap.size I M N 9 A C D s t):=HS.out.still k1;clear o0 o1 o2 o3 o4 o5 oz k1;obtain⟨o0,o1,-⟩:=dZ HS1.out.o;have oz:=ae HS1.out.o;have c0:w1.cell? ⟨b,0,none⟩=some (.slice M.hx.ao M.V.length M.hx.cap):=by rw[aa HS1.out.m.blk];rfl
 have bz:=ae HS1.out.m.blk
 go_upto_region 4 with fail
 go_quiet ((go_at_call 12;exact Calls.quiet_of_same (HPK.out _)))
 go_upto_region 5 with fail
 obtain⟨w2,Hw2⟩:∃w2,Hid (w1.drewN nq=w2):=⟨_,rfl⟩
 rw[Hw2.out];have HS2:Hid (jO w2 b w.heap.size I M N 9 A C D s t):=HS1.out.still (by rw[<-Hw2.out];exact(ab.refl [] _).drewN nq);clear o0 o1 oz c0 bz;obtain⟨o0,o1,o2,o3,o4,o5,oz⟩:=dZ HS2.out.o;obtain⟨x,m,fs,hd,g1,g2,hxi,h7,hok,⟨hx,hm,hxm,hxh⟩,⟨e1,z1,d1⟩,e2,z2,d2⟩:=HS2.out.m.ver hil;have c0:w2.cell? ⟨b,0,none⟩=some (.slice M.hx.ao M.V.length M.hx.cap):=by rw[aa HS2.out.m.blk];rfl
 have c1:w2.cell? ⟨b,1,none⟩=some (.slice M.hm.ao M.V.length M.hm.cap):=by rw[aa HS2.out.m.blk];rfl
 rw[e1]at c0;rw[e2]at c1;have bz:=ae HS2.out.m.blk;have HXP:Hid (Calls Tryz.prog 14 #[.pointer (some ⟨x,0,none⟩),.string s,.string t] w2 fun e w'=>e=.returned (.int .i64 (gy fs s t).1)/\bW w' x (gy fs s t).2/\ab [x] w2 w'):=(Iu x s t fs w2 hx hs (by omega)).mono (fun e w' h=>⟨h.1,h.2.1,h.2.2.2⟩)
 have HMP:Hid (∀w3,cW w3 m hd fs->Calls Tryz.prog 15 #[.pointer (some ⟨m,0,none⟩),.string s,.string t] w3 fun e w'=>e=.returned (.int .i64 (gy fs s t).1)/\∃h',cW w' m h' (gy fs s t).2/\qA w3 w' m hd h'):=fun w3 hr=>by
  obtain⟨on,p2,p3,p4,hr⟩:=hr;exact(Ev m fs hd on p2 p3 p4 s t w3 hr hs (by omega)).mono (fun e w' h=>by obtain⟨h1,h',on',h2,h3⟩:=h;exact⟨h1,h',⟨_,_,_,_,h2⟩,h3⟩)
 have HRM:Hid (cW w2 m hd fs):=hm;have HD:Hid (x≠m/\hd.blk≠some x):=⟨hxm,hxh⟩;have HXI:=(show Hid _ from hxi);have H7:=(show Hid _ from h7);have HOK:Hid (wE (gy fs s t).2):=KO hok s t;have HBx:=(show Hid _ from HS2.out.o)
 have HXB:Hid (x≠w.heap.size):=fun e=>by
  have p:=HM0.out.sep.all (6,i);rw[(HM0.out.v i x m fs hxi).1]at p;have:=(Kv x fs).lt w p x (List.mem_singleton.2 rfl);omega
 generalize gy fs s t=pf at *;obtain⟨r,fs1⟩:=pf;simp only at HXP HMP HOK;clear hxi h7 hok hx hm hxm hxh e1 e2
 go_upto_region 18 with (go_at_call 14;refine Calls.mono HXP.out ?_;rintro e w3 ⟨rfl,q1,q3⟩)
 have HR3:Hid (cW w3 m hd fs):=HRM.out.kept q3 (by simp;exact Ne.symm HD.out.1) (fun q hq=>by simp;intro e;rw[e]at hq;exact HD.out.2 hq);have HX3:Hid (bW w3 x fs1):=q1;have HK3:=(show Hid _ from q3);have B3:=q3.get HBx.out (by simp;exact fun e=>HXB.out e.symm);clear o0 o1 o2 o3 o4 o5 oz c0 c1 bz z1 d1 z2 d2 q1 q3;obtain⟨-,-,-,-,o4,o5,oz⟩:=dZ B3;clear B3;go_wp2_with (go_at_call 15;refine Calls.mono (HMP.out w3 HR3.out) ?_;rintro e w4 ⟨rfl,h',q1,q4⟩);go_ret
 have hmz:∀q,h'.blk=some q->hd.blk=some q∨w2.heap.size<=q:=fun q hq=>by
  rcases q4.blk with e | ⟨g,e,hg⟩
  ·exact Or.inl (by rw[<-e];exact hq)
  ·rw[e]at hq;cases hq;exact Or.inr (Nat.le_trans HK3.out.size hg)
 exact⟨rfl,HS2.out.m.both HXI.out H7.out (HX3.out.kept q4.kept (by intro hq;rcases List.mem_cons.1 hq with e | hq;exact HD.out.1 e;exact HD.out.2 (aK hq))) q1 hmz ((HK3.out.mono (fun q hq _=>List.mem_append_left _ hq)).trans (q4.kept.mono (fun q hq _=>List.mem_append_right _ hq))) HOK.out⟩
theorem bM.loads{w:World}{b N:Nat}{I:Nat×Nat->It}{M:Mc}(a:bM w b I M N)(hN:N<=1073741824){i k x m o n e:Nat}{fs fl:Fs}{h:Hd}{la lc:Option Nat}(hi:M.V[i]?=some (x,m,fs))(h7:I (7,i)=J8 m h fs)(hk:M.L[k]?=some (la,lc,fl))(hl:o+n+e<=fl.length) :
  Calls Tryz.prog 13 #[.pointer (some ⟨x,0,none⟩),.pointer (some ⟨m,0,none⟩),.slice (GB la) fl.length fl.length,.int .i64 o,.int .i64 n,.int .i64 e] w fun r w'=>Ae w x m h (js fs ((fl.drop o).take n)) r w':=by
 obtain⟨h6,-,-⟩:=a.v i x m fs hi;obtain⟨h8,-,hfit,hfl⟩:=a.l k la lc fl hk;have p6:=a.sep.all (6,i);have p7:=a.sep.all (7,i);have p8:=a.sep.all (8,k);rw[h6]at p6;rw[h7]at p7;rw[h8]at p8;have hfar:x∉m :: h.blk.toList:=fun hq=>a.sep.far (6,i) (7,i) (bA (by decide)) x (by rw[h6];exact List.mem_singleton.2 rfl) (by rw[h7];exact hq)
 have hxm:x≠m:=fun e=>hfar (by rw[e];exact List.mem_cons_self)
 have hxh:h.blk≠some x:=fun e=>hfar (List.mem_cons_of_mem _ (by rw[e];simp))
 cases la with
 | none =>
  have hnil:=gC.nil p8 rfl;subst hnil;have e1:o=0:=by simp at hl;omega
  have e2:n=0:=by simp at hl;omega
  have e3:e=0:=by simp at hl;omega
  subst e1 e2 e3;exact AV x m fs h w p6 p7 hxm hxh
 | some ba =>
  have f6:ba∉[x]:=by have:=a.sep.far (8,k) (6,i) (bA (by decide)) ba (by rw[h8];exact List.mem_singleton.2 rfl);rw[h6]at this;exact this
  have f7:ba∉m :: h.blk.toList:=by have:=a.sep.far (8,k) (7,i) (bA (by decide)) ba (by rw[h8];exact List.mem_singleton.2 rfl);rw[h7]at this;exact this
  exact yY x m ba o n e fs fl h w p6 p7 (gC.blk p8 ba rfl) hxm hxh (fun e=>f6 (by rw[e];simp)) (fun e=>f7 (by rw[e];exact List.mem_cons_self)) (fun e=>f7 (List.mem_cons_of_mem _ (by rw[e];simp))) hl (by omega) hfit
set_option maxRecDepth 100000 in
theorem Lx(b N:Nat)(I:Nat×Nat->It)(M:Mc)(A C D:Int)(s t:ByteArray)(w:World)(h:bM w b I M N)(hV:M.V.length≠0)(hA:qC A)(hC:qC C)(hN:N<=1073741824) :
  Calls Tryz.prog 9 #[.pointer (some ⟨b,0,none⟩),.agg #[.int .i64 8,.int .i64 A,.int .i64 C,.int .i64 D,.string s,.string t]] w fun e w'=>go b I N true e w':=by
 obtain⟨W,HW⟩:∃W,Hid (w.alloc (.cells #[.int .i64 8,.int .i64 A,.int .i64 C,.int .i64 D,.string s,.string t] 28)=W):=⟨_,rfl⟩
 obtain⟨hM,hB,hbw,-⟩:=h.boxed 8 A C D s t W HW.out;obtain⟨o0,o1,o2,o3,o4,o5,oz⟩:=dZ hB;have HL:=(show Hid _ from mH b N I M 8 A C D s t W hM (by omega));have HS:Hid (jO W b w.heap.size I M N 8 A C D s t):=⟨hM,hB⟩;have hVl:=h.len.1;have HPK:Hid (∀wx,Calls Tryz.prog 12 #[.int .i64 A,.int .i64 M.V.length] wx fun e w'=>e=.returned (.int .i64 (f8 A M.V.length:Nat))/\w'=wx):=fun wx=>ij A M.V.length wx hA ⟨by omega,by omega⟩
 have hil:=ju A M.V.length (by omega);obtain⟨i,Hi⟩:∃i,Hid (f8 A M.V.length=i):=⟨_,rfl⟩
 rw[Hi.out]at HPK hil;have hVi:((M.V.length:Int)==0)=false:=beq_eq_false_iff_ne.2 (by omega);have hii:(i:Int)<(M.V.length:Int):=by omega
 clear h hM hB;go_enter Tryz.func9,Tryz.ntmps9
 go_upto_region 1 with fail
 rw[HW.out]
 go_upto_region 2 with (go_at_call 11;refine Calls.mono HL.out ?_;rintro e w1 ⟨rfl,k1⟩)
 have HS1:Hid (jO w1 b w.heap.size I M N 8 A C D s t):=HS.out.still k1;clear o0 o1 o2 o3 o4 o5 oz k1;obtain⟨o0,o1,-⟩:=dZ HS1.out.o;have oz:=ae HS1.out.o;have c0:w1.cell? ⟨b,0,none⟩=some (.slice M.hx.ao M.V.length M.hx.cap):=by rw[aa HS1.out.m.blk];rfl
 have bz:=ae HS1.out.m.blk
 go_upto_region 4 with fail
 go_quiet ((go_at_call 12;exact Calls.quiet_of_same (HPK.out _)))
 go_upto_region 5 with fail
 obtain⟨w2,Hw2⟩:∃w2,Hid (w1.drewN nq=w2):=⟨_,rfl⟩
 rw[Hw2.out];have HS2:Hid (jO w2 b w.heap.size I M N 8 A C D s t):=HS1.out.still (by rw[<-Hw2.out];exact(ab.refl [] _).drewN nq);clear o0 o1 oz c0 bz;obtain⟨o0,o1,o2,o3,o4,o5,oz⟩:=dZ HS2.out.o;obtain⟨x,m,fs,hd,g1,g2,hxi,h7,hok,⟨hx,hm,hxm,hxh⟩,⟨e1,z1,d1⟩,e2,z2,d2⟩:=HS2.out.m.ver hil;have c0:w2.cell? ⟨b,0,none⟩=some (.slice M.hx.ao M.V.length M.hx.cap):=by rw[aa HS2.out.m.blk];rfl
 have c1:w2.cell? ⟨b,1,none⟩=some (.slice M.hm.ao M.V.length M.hm.cap):=by rw[aa HS2.out.m.blk];rfl
 rw[e1]at c0;rw[e2]at c1;have bz:=ae HS2.out.m.blk;have HXI:=(show Hid _ from hxi);have H7:=(show Hid _ from h7);have HOK:Hid (wE fs):=hok;have c3:w2.cell? ⟨b,3,none⟩=some (.slice M.hl.ao M.L.length M.hl.cap):=by rw[aa HS2.out.m.blk];rfl
 by_cases hL:M.L.length=0
 ·rw[hL]at c3
  clear hxi h7 hok hx hm hxm hxh e1 e2;go_wp2;go_ret;exact⟨rfl,_,_,HS2.out.m.more,rfl⟩
 ·have hLl:=HS2.out.m.len.2.2
  have HPL:Hid (∀wx,Calls Tryz.prog 12 #[.int .i64 C,.int .i64 M.L.length] wx fun e w'=>e=.returned (.int .i64 (f8 C M.L.length:Nat))/\w'=wx):=fun wx=>ij C M.L.length wx hC ⟨by omega,by omega⟩
  have hkl:=ju C M.L.length (by omega);obtain⟨k,Hk⟩:∃k,Hid (f8 C M.L.length=k):=⟨_,rfl⟩
  rw[Hk.out]at HPL hkl;obtain⟨⟨la,lc,fl⟩,hk⟩:∃x,M.L[k]?=some x:=⟨M.L[k],List.getElem?_eq_getElem hkl⟩
  obtain⟨-,-,-,hfl⟩:=HS2.out.m.l k la lc fl hk;obtain⟨gl,hgl,gz,gc⟩:=md HS2.out.m.ownL (k:=k) (x:=(la,fl)) (by rw[List.getElem?_map,hk];rfl);replace gc:w2.cell? ⟨gl,k,none⟩=some (.slice (GB la) fl.length fl.length):=gc;rw[hgl]at c3;have hki:(k:Int)<(M.L.length:Int):=by omega
  have hLi:((M.L.length:Int)==0)=false:=beq_eq_false_iff_ne.2 (by omega);have HKk:=(show Hid _ from hk);obtain⟨ra,rn,re⟩:=HS2.out.m.rng;have HP1:Hid (∀wx,Calls Tryz.prog 12 #[.int .i64 M.a,.int .i64 ((fl.length:Int)+1)] wx fun e w'=>e=.returned (.int .i64 (f8 M.a (fl.length+1):Nat))/\w'=wx):=fun wx=>ij M.a (fl.length+1) wx ra ⟨by omega,by omega⟩
  have ho:=ju M.a (fl.length+1) (by omega);obtain⟨o,Ho⟩:∃o,Hid (f8 M.a (fl.length+1)=o):=⟨_,rfl⟩
  rw[Ho.out]at HP1 ho
  have HP2:Hid (∀wx,Calls Tryz.prog 12 #[.int .i64 M.n,.int .i64 ((fl.length:Int)-(o:Int)+1)] wx fun e w'=>e=.returned (.int .i64 (f8 M.n (fl.length-o+1):Nat))/\w'=wx):=fun wx=>by
   rw[show(fl.length:Int)-(o:Int)+1=((fl.length-o+1:Nat):Int) by omega];exact ij M.n (fl.length-o+1) wx rn ⟨by omega,by omega⟩
  have hn:=ju M.n (fl.length-o+1) (by omega);obtain⟨n,Hn⟩:∃n,Hid (f8 M.n (fl.length-o+1)=n):=⟨_,rfl⟩
  rw[Hn.out]at HP2 hn
  have HP3:Hid (∀wx,Calls Tryz.prog 12 #[.int .i64 M.e,.int .i64 ((fl.length:Int)-(o:Int)-(n:Int)+1)] wx fun e w'=>e=.returned (.int .i64 (f8 M.e (fl.length-o-n+1):Nat))/\w'=wx):=fun wx=>by
   rw[show(fl.length:Int)-(o:Int)-(n:Int)+1=((fl.length-o-n+1:Nat):Int) by omega];exact ij M.e (fl.length-o-n+1) wx re ⟨by omega,by omega⟩
  have he:=ju M.e (fl.length-o-n+1) (by omega);obtain⟨e,He⟩:∃e,Hid (f8 M.e (fl.length-o-n+1)=e):=⟨_,rfl⟩
  rw[He.out]at HP3 he;have HLD:Hid (∀w3,bM w3 b I M N->Calls Tryz.prog 13 _ w3 _):=fun w3 a=>a.loads hN hxi h7 hk (o:=o) (n:=n) (e:=e) (by omega)
  clear hxi h7 hok hx hm hxm hxh e1 e2 hk hgl ra rn re
  go_upto_region 11 with fail
  go_quiet ((go_at_call 12;exact Calls.quiet_of_same (HPL.out _)))
  go_upto_region 12 with fail
  obtain⟨w3,Hw3⟩:∃w3,Hid (w2.drewN nq=w3):=⟨_,rfl⟩
  rw[Hw3.out];have HS3:Hid (jO w3 b w.heap.size I M N 8 A C D s t):=HS2.out.still (by rw[<-Hw3.out];exact(ab.refl [] _).drewN nq);clear o0 o1 o2 o3 o4 o5 oz c0 c1 c3 bz z1 d1 z2 d2 gz gc;have c5:w3.cell? ⟨b,5,none⟩=some (.int .i64 M.a):=by rw[aa HS3.out.m.blk];rfl
  have c6:w3.cell? ⟨b,6,none⟩=some (.int .i64 M.n):=by rw[aa HS3.out.m.blk];rfl
  have c7:w3.cell? ⟨b,7,none⟩=some (.int .i64 M.e):=by rw[aa HS3.out.m.blk];rfl
  have bz:=ae HS3.out.m.blk;have HLD3:=(show Hid _ from HLD.out w3 HS3.out.m);have HFN:=(show Hid _ from HOK.out)
  go_upto_region 13 with (go_at_call 12;refine Calls.mono (HP1.out _) ?_;rintro q w4 ⟨rfl,hw4⟩;rw[hw4];clear hw4)
  go_upto_region 14 with (go_at_call 12;refine Calls.mono (HP2.out _) ?_;rintro q w4 ⟨rfl,hw4⟩;rw[hw4];clear hw4)
  go_upto_region 15 with (go_at_call 12;refine Calls.mono (HP3.out _) ?_;rintro q w4 ⟨rfl,hw4⟩;rw[hw4];clear hw4)
  go_wp2_with (go_at_call 13;refine Calls.mono HLD3.out ?_;rintro q w4 ⟨rfl,q1,⟨h',q2,q3⟩,q4⟩);go_ret;exact⟨rfl,HS3.out.m.both HXI.out H7.out q1 q2 q3 q4 (GA HOK.out _)⟩
structure qz where
 k:Int
 a:Int
 c:Int
 d:Int
 s:ByteArray
 t:ByteArray
def Jo(o:qz):List Value:=[.int .i64 o.k,.int .i64 o.a,.int .i64 o.c,.int .i64 o.d,.string o.s,.string o.t]
structure ID(o:qz):Prop where
 a:qC o.a
 c:qC o.c
 d:qC o.d
 s:o.s.size<=1073741824
 t:o.t.size<=1073741824
 k:(1<=o.k/\o.k<=10)∨(15<=o.k/\o.k<=18)
theorem E2(b N:Nat)(I:Nat×Nat->It)(M:Mc)(o:qz)(w:World)(h:bM w b I M N)(hN:N<=1073741824)(ho:ID o) :
  Calls Tryz.prog 9 #[.pointer (some ⟨b,0,none⟩),.agg #[.int .i64 o.k,.int .i64 o.a,.int .i64 o.c,.int .i64 o.d,.string o.s,.string o.t]] w fun e w'=>go b I N true e w':=by
 obtain⟨k,A,C,D,s,t⟩:=o;obtain⟨ha,hc,hd,hs,ht,hk⟩:=ho;simp only at *;have hk2:k=1∨k=2∨k=3∨k=4∨k=5∨k=6∨k=7∨k=15∨k=16∨k=17∨k=18∨k=8∨k=9∨k=10:=by omega
 rcases hk2 with rfl | rfl | rfl | rfl | rfl | rfl | rfl | rfl | rfl | rfl | rfl | h2
 ·exact fH b N I M _ A C D s t w h (fun W hM=>Ky b N I M A C D s t W hM hN)
 ·exact fH b N I M _ A C D s t w h (fun W hM=>Kz b N I M A C D s t W hM hN hs ht)
 ·exact fH b N I M _ A C D s t w h (fun W hM=>KC b N I M A C D s t W hM)
 ·exact fH b N I M _ A C D s t w h (fun W hM=>KD b N I M A C D s t W hM hN)
 ·exact fH b N I M _ A C D s t w h (fun W hM=>KE b N I M A C D s t W hM hN)
 ·exact fH b N I M _ A C D s t w h (fun W hM=>KG b N I M A C D s t W hM hN ha hc hs ht)
 ·exact fH b N I M _ A C D s t w h (fun W hM=>KH b N I M A C D s t W hM ha hc hd)
 ·exact fH b N I M _ A C D s t w h (fun W hM=>Jd b N I M A C D s t W hM)
 ·exact fH b N I M _ A C D s t w h (fun W hM=>Je b N I M A C D s t W hM)
 ·exact fH b N I M _ A C D s t w h (fun W hM=>Jf b N I M A C D s t W hM)
 ·exact fH b N I M _ A C D s t w h (fun W hM=>Jg b N I M A C D s t W hM)
 by_cases hV:M.V.length=0
 ·exact E5 b N I M k A C D s t w h (by omega) hV
 ·rcases h2 with rfl | rfl | rfl
  ·exact Lx b N I M A C D s t w h hV ha hc hN
  ·exact Ly b N I M A C D s t w h hV ha hN hs ht
  ·exact KR b N I M A C D s t w h hV ha hN
def nt(w:World)(ao:Option Addr)(l:List qz):Prop:=∀(i:Nat) (o:qz),l[i]?=some o->∃b off,ao=some ⟨b,off,none⟩/\b<w.heap.size/\∀(j:Nat) u,(Jo o)[j]?=some u->w.cell? ⟨b,off+i*6+j,none⟩=some u
theorem nt.still{w w':World}{ao:Option Addr}{l:List qz}(h:nt w ao l)(k:ab [] w w'):nt w' ao l:=by
 intro i o hi;obtain⟨b,off,e,hb,hc⟩:=h i o hi;exact⟨b,off,e,Nat.lt_of_lt_of_le hb k.size,fun j u hj=>by rw[World.cell?_of_block (k.block b hb (by simp))];exact hc j u hj⟩
structure Dd(o:qz):Prop where
 k:qC o.k
 a:qC o.a
 c:qC o.c
 d:qC o.d
 s:o.s.size<=140737488351232
 t:o.t.size<=140737488351232
def lo(l:List qz)(k:Nat):qz:=l.getD k ⟨0,0,0,0,⟨#[]⟩,⟨#[]⟩⟩
theorem l9(l:List qz)(k:Nat)(h:k<l.length):l[k]?=some (lo l k):=by
 unfold lo;rw[List.getD_eq_getElem?_getD,List.getElem?_eq_getElem h];rfl
def Ke(l:List qz)(w:World)(e:Ending)(w':World):Prop:=(∃r,e=.returned (.bool r)/\(r=true->l.length<=1073741824/\∀i,i<l.length->(lo l i).s.size<=1073741824/\(lo l i).t.size<=1073741824))/\ab [] w w'
set_option maxRecDepth 100000 in
theorem BA(ao:Option Addr)(cap:Nat)(l:List qz)(w:World)(hl:l.length<=140737488351232)(hi:nt w ao l)(ho:∀o∈l,Dd o) :
  Calls Tryz.prog 7 #[.slice ao l.length cap] w fun e w'=>Ke l w e w':=by
 have HI:Hid (nt w ao l):=hi;have HO:=(show Hid _ from ho);clear hi ho
 by_cases h0:1073741824<l.length
 ·have h0i:(1073741824:Int)<(l.length:Int):=by omega
  go_enter Tryz.func7,Tryz.ntmps7;go_wp2;go_ret;exact⟨⟨false,rfl,by simp⟩,ab.refl _ _⟩
 ·have h0i:¬(1073741824:Int)<(l.length:Int):=by omega
  go_enter Tryz.func7,Tryz.ntmps7;go_wp2
  go_loopg [3,4] l.length (fun g m i wr=>∃(k:Nat) (z:Int),k<=l.length/\g=l.length-k/\i=.int .i64 k/\m=.int .i64 z/\Hid (∀i,i<k->(lo l i).s.size<=1073741824/\(lo l i).t.size<=1073741824)/\0<=z/\z<=1073741824/\Hid (ab [] w wr))
  case atStart=>exact⟨0,l.length,by omega,by omega,rfl,rfl,fun i h=>by omega,by omega,by omega,ab.refl _ _⟩
  case round =>
   obtain⟨k,z,hk,hg,rfl,rfl,HZ,hz0,hz1,HK⟩:=hrel
   by_cases hlt:k<l.length
   ·have hki:(k:Int)<(l.length:Int):=by omega
    obtain⟨b,off,rfl,hb,hc⟩:=(nt.still HI.out HK.out) k _ (l9 l k hlt);have c4:=hc 4 _ rfl;have c5:=hc 5 _ rfl;have hs:=(HO.out (lo l k) (List.mem_of_getElem? (l9 l k hlt))).s;have ht:=(HO.out (lo l k) (List.mem_of_getElem? (l9 l k hlt))).t;obtain⟨o,Ho⟩:∃o,Hid (lo l k=o):=⟨_,rfl⟩
    rw[Ho.out]at c4 c5 hs ht;clear hc;have hsi:(o.s.size:Int)<=140737488351232:=by omega
    have hti:(o.t.size:Int)<=140737488351232:=by omega
    by_cases hb2:(1073741824:Int)<z+o.s.size+o.t.size
    ·go_upto_region 7 with fail
     go_quiet (fail)
     have HK2:Hid (ab [] w (wr.drewN nq)):=HK.out.drewN nq;go_wp2;go_ret;exact⟨⟨false,rfl,by simp⟩,HK2.out⟩
    ·have HZ2:Hid (∀i,i<k+1->(lo l i).s.size<=1073741824/\(lo l i).t.size<=1073741824):=fun i hi=>by
      by_cases e:i=k
      ·rw[e,Ho.out];omega
      ·exact HZ.out i (by omega)
     go_upto_region 7 with fail
     go_quiet (fail)
     have HK2:Hid (ab [] w (wr.drewN nq)):=HK.out.drewN nq;go_wp2
     go_roundg (l.length-(k+1))
     case measure=>omega
     case rel=>exact⟨k+1,z+o.s.size+o.t.size,by omega,rfl,by go_num,rfl,HZ2,by omega,by omega,HK2⟩
   ·have hnn:¬(k:Int)<(l.length:Int):=by omega
    have HZ2:Hid (∀i,i<l.length->(lo l i).s.size<=1073741824/\(lo l i).t.size<=1073741824):=fun i hi=>HZ.out i (by omega)
    go_wp2;go_ret;exact⟨⟨true,rfl,fun _=>⟨by omega,HZ2.out⟩⟩,HK.out⟩
end Go.Proofs.YtpddjjabfbfifaaGreat

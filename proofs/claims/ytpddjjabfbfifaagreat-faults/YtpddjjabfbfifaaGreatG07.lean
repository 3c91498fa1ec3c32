import Derived.Test.YtpddjjabfbfifaaGreatG06
namespace Go.Proofs.YtpddjjabfbfifaaGreat
open Go.RowKit
set_option maxHeartbeats 40000000
theorem mB(l:List (Nat×Nat)):(nU l).length=l.length*2:=by
 induction l with
 | nil=>rfl
 | cons a r ih=>simp only[nU,List.flatMap_cons,List.length_append,List.length_cons,List.length_nil]at *;omega
theorem uS(l:List (Nat×Nat))(x:Nat×Nat):(nU (l++[x]))[l.length*2]?=some (.int .i64 x.1)/\(nU (l++[x]))[l.length*2+1]?=some (.int .i64 x.2):=by
 rw[oV];have:=mB l
 constructor
 ·rw[List.getElem?_append_right (by omega),this];simp
 ·rw[List.getElem?_append_right (by omega),this];simp
theorem aA.pop{w:World}{h:Hd}{l:List (Nat×Nat)}{x:Nat×Nat}(o:aA w h (l4 (l++[x]))):aA w h (l4 l):=by
 rcases o.ways with ⟨e0,h0,_⟩ | ⟨g,cur,e1,e2,e3,e4,e5,e6⟩
 ·have h0':(l++[x]).length=0:=h0
  simp at h0'
 ·obtain⟨ao,cap⟩:=h
  simp only at e1 e3 e4 e5;subst e1;have e3':(l++[x]).length<=cap:=e3;simp at e3';refine⟨by simp only[l4];exact mB l,Or.inr ⟨g,cap,cur,rfl,Nat.zero_le _,e2,?_,e4,e5,?_⟩⟩
  ·simp only[l4];omega
  ·have e6':cur.toList.take ((l++[x]).length*2)=nU (l++[x]):=e6
   simp only[l4];have e7:nU l=(nU (l++[x])).take (l.length*2):=by rw[oV,List.take_left' (mB l)]
   rw[e7,<-e6',List.take_take]
   congr 1
   simp
def cQ(d:Db)(bl:List (Nat×Nat))(x:Nat×Nat):Db:={ d with blocks:=bl,active:=d.active.take x.1,typed:=d.typed.take x.2 }
theorem Gr(l:List ByteArray)(c:Nat):(l.take c).length=if c<=l.length then c else l.length:=by
 rw[List.length_take];split <;> omega
theorem aA.taken{w:World}{h:Hd}{l:List ByteArray}(o:aA w h (aD l))(c:Nat):aA w h (aD (l.take c)):=by
 by_cases hc:c<=l.length
 ·exact o.cut c hc
 ·rw[List.take_of_length_le (by omega)];exact o
theorem uM(hd:Hd)(l:List ByteArray)(c m:Nat)(w:World)(hm:Hid ((l.take c).length=m))(ho:aA w hd (aD l))(hc:c<=1073741824) :
  Calls Tryz.prog 262 #[.slice hd.ao l.length hd.cap,.int .i64 c] w fun e w'=>e=.returned (.slice hd.ao m hd.cap)/\w'=w:=by
 have e:m=if c<=l.length then c else l.length:=by rw[<-hm.out,Gr]
 rw[e];exact Ds hd l c w ho hc
theorem oc(i cell:Nat){w:World}{b t o:Nat}{pre post:List Value}{d d':Db}{H:Nat->Hd}(h:aN w b t pre post d H)(ho:pre.length=o)(hi:i<10)(ow:aA w (H i) (aP d' H i))
  (hrow:∀j,j≠i->aP d' H j=aP d H j) (u:Value) (hc:cell<13) (hl:(bU d H).set cell u=bU d' (fI H i (H i))) :
  aN (w.setCell ⟨b,o+cell,none⟩ u) b t pre post d' H/\aw b w H (w.setCell ⟨b,o+cell,none⟩ u) H:=by
 have hu:=Gg H i;have:=h.put (d':=d') o cell ho i hi (H i) ow (World.grownBy.refl _ _) (Or.inr (Or.inl rfl)) hrow u hc hl;rw[hu]at this;exact this
set_option maxRecDepth 100000 in
theorem wK(b t o:Nat)(pre post:List Value)(d:Db)(H:Nat->Hd)(bl:List (Nat×Nat))(x:Nat×Nat)(w:World)(h:aN w b t pre post d H)(ho:pre.length=o)(hbl:d.blocks=bl++[x])
  (hs:eS d 1073741824) (hx:x.1<=1073741824/\x.2<=1073741824) :
  Calls Tryz.prog 248 #[.pointer (some ⟨b,o,none⟩)] w fun e w'=>e=.returned (.tuple #[])/\aN w' b t pre post (cQ d bl x) H/\aw b w H w' H:=by
 obtain⟨q0,q1,q2,q3,q4,q5,q6,q7,q8,q9,q10,q11,q12⟩:=h.cells o ho;obtain⟨x1,x2⟩:=x;simp only at hx;have hfr:=h.free;have hbw:=h.lt;have hw5:=h.own 5;have hw5':aA w (H 5) (l4 (bl++[(x1,x2)])):=by have:=hw5;simp only[aP,hbl]at this;exact this
 have hlen:=hs.blocks;rw[hbl]at hlen q5;simp only[List.length_append,List.length_cons,List.length_nil]at hlen q5
 rcases hw5'.ways with ⟨e0,h0,_⟩ | ⟨g,cur,e1,e2,e3,e4,e5,e6⟩
 ·have h0':(bl++[(x1,x2)]).length=0:=h0
  simp at h0'
 ·have p1:=hw5'.cell e1 (bl.length*2) _ (uS bl (x1,x2)).1
  have p2:=hw5'.cell e1 (bl.length*2+1) _ (uS bl (x1,x2)).2;have hcap:bl.length+1<=(H 5).cap:=by have:(bl++[(x1,x2)]).length<=(H 5).cap:=e3;simpa using this
  have hcap2:(H 5).cap<=9223372036854775807:=by unfold maxLen at e4;exact e4
  have hg:=ae e2;have P1:=oc 5 5 (d':={ d with blocks:=bl }) h ho (by omega) hw5'.pop (rQ d H bl) (.slice (some ⟨g,0,none⟩) bl.length (H 5).cap) (by omega) (by simp[bU,fI,e1]);obtain⟨w2,hw2⟩:∃w2,w2=(w.setCell ⟨b,o+5,none⟩ (.slice (some ⟨g,0,none⟩) bl.length (H 5).cap)).alloc (.cells #[.int .i64 x1,.int .i64 x2] 337):=⟨_,rfl⟩
  have D2:aN w2 b t pre post { d with blocks:=bl } H:=by rw[hw2];exact P1.1.still ((ab.refl [] _).alloc _)
  have T2:aw b w H w2 H:=by rw[hw2];exact P1.2.still ((ab.refl [] _).alloc _)
  have B2:w2.heap[w.heap.size]?=some (.cells #[.int .i64 x1,.int .i64 x2] 337 (0,0)):=by
   rw[hw2];have:=heap_alloc_new (w.setCell ⟨b,o+5,none⟩ (.slice (some ⟨g,0,none⟩) bl.length (H 5).cap)) (.cells #[.int .i64 x1,.int .i64 x2] 337);simpa [World.setCell] using this
  have HW:Hid ((w.setCell ⟨b,o+5,none⟩ (.slice (some ⟨g,0,none⟩) bl.length (H 5).cap)).alloc (.cells #[.int .i64 x1,.int .i64 x2] 337)=w2):=hw2.symm;have HL2:=hs.active;have HL3:=hs.typed;rw[e1]at q5;simp only at p1 p2;clear hw5 hw5' e3 e4 e5 e6 e2 h P1 hw2;go_enter Tryz.func248,Tryz.ntmps248
  go_upto_region 4 with fail
  rw[HW.out];have c0:w2.cell? ⟨w.heap.size,0,none⟩=some (.int .i64 x1):=by rw[aa B2];rfl
  have c1:w2.cell? ⟨w.heap.size,1,none⟩=some (.int .i64 x2):=by rw[aa B2];rfl
  have hne:w.heap.size≠b:=by omega
  have hB2:=ae B2;clear HW q0 q1 q2 q3 q4 q5 q6 q7 q8 q9 q10 q11 q12 p1 p2 hfr hg;obtain⟨q0,q1,q2,q3,q4,q5,q6,q7,q8,q9,q10,q11,q12⟩:=D2.cells o ho;have hfr:=D2.free;obtain⟨m1,hm1⟩:∃m,Hid ((d.active.take x1).length=m):=⟨_,rfl⟩
  obtain⟨m2,hm2⟩:∃m,Hid ((d.typed.take x2).length=m):=⟨_,rfl⟩
  have P3:=oc 3 3 (d':={ d with blocks:=bl,active:=d.active.take x1 }) D2 ho (by omega) ((D2.own 3).taken x1) (rV { d with blocks:=bl } H (d.active.take x1)) (.slice (H 3).ao m1 (H 3).cap) (by omega) (by simp only[bU,cG,<-hm1.out];rfl);obtain⟨w3,hw3⟩:∃w3,w3=(w2.setCell ⟨b,o+3,none⟩ (.slice (H 3).ao m1 (H 3).cap)).drew:=⟨_,rfl⟩
  have D3:Hid (aN w3 b t pre post { d with blocks:=bl,active:=d.active.take x1 } H):=by rw[hw3];exact P3.1.still (ab.refl [] _).drew
  have T3:Hid (aw b w H w3 H):=by rw[hw3];exact T2.trans (P3.2.still (ab.refl [] _).drew)
  have B3:Hid (w3.heap[w.heap.size]?=some (.cells #[.int .i64 x1,.int .i64 x2] 337 (0,0))):=by
   show w3.heap[w.heap.size]?=_
   rw[hw3];exact(Below.heap_setCell w2 ⟨b,o+3,none⟩ (.slice (H 3).ao m1 (H 3).cap) w.heap.size hne).trans B2
  have HW3:Hid ((w2.setCell ⟨b,o+3,none⟩ (.slice (H 3).ao m1 (H 3).cap)).drew=w3):=hw3.symm;clear hw3 P3
  go_region_with (go_at_call 262;refine(uM (H 3) d.active x1 m1 _ hm1 (by exact D2.own 3) hx.1).mono ?_;rintro e w3 ⟨rfl,rfl⟩)
  all_goals go_upto_region 5 with fail
  all_goals rw[HW3.out]
  all_goals
   clear HW3 q0 q1 q2 q3 q4 q5 q6 q7 q8 q9 q10 q11 q12 hfr D2 T2 B2 c0 c1 hB2;have c0:w3.cell? ⟨w.heap.size,0,none⟩=some (.int .i64 x1):=by rw[aa B3.out];rfl
   have c1:w3.cell? ⟨w.heap.size,1,none⟩=some (.int .i64 x2):=by rw[aa B3.out];rfl
   obtain⟨q0,q1,q2,q3,q4,q5,q6,q7,q8,q9,q10,q11,q12⟩:=D3.out.cells o ho;have hfr:=D3.out.free;have P4:=oc 4 4 (d':=cQ d bl (x1,x2)) D3.out ho (by omega) ((D3.out.own 4).taken x2) (s9 { d with blocks:=bl,active:=d.active.take x1 } H (d.typed.take x2)) (.slice (H 4).ao m2 (H 4).cap) (by omega) (by simp only[bU,cQ,cG,<-hm2.out];rfl);have HP4:=(show Hid _ from P4);clear P4
   go_region_with (go_at_call 262;refine(uM (H 4) d.typed x2 m2 _ hm2 (by exact D3.out.own 4) hx.2).mono ?_;rintro e w3 ⟨rfl,rfl⟩)
   all_goals go_wp2
   all_goals go_end0
   all_goals exact⟨rfl,HP4.out.1.still (ab.refl [] _).drew,T3.out.trans (HP4.out.2.still (ab.refl [] _).drew)⟩
theorem zO{α:Type}(f:α->List Value)(n:Nat)(hf:∀a,(f a).length=n)(l:List α):(l.flatMap f).length=l.length*n:=by
 induction l with
 | nil=>simp
 | cons a l ih=>simp only[List.flatMap_cons,List.length_append,hf,ih,List.length_cons];rw[Nat.add_mul];omega
theorem yG{α:Type}(f:α->List Value)(n:Nat)(hf:∀a,(f a).length=n)(l:List α)(i j:Nat)(hi:i<l.length)(hj:j<n):(l.flatMap f)[i*n+j]?=(f l[i])[j]?:=by
 induction l generalizing i with
 | nil=>simp at hi
 | cons a l ih =>
  rw[List.flatMap_cons]
  cases i with
  | zero=>rw[List.getElem?_append_left (by rw[hf];omega)];simp
  | succ i =>
   have e:(i+1)*n+j=n+(i*n+j):=by rw[Nat.add_mul];omega
   rw[List.getElem?_append_right (by rw[hf,e];omega),hf,e,show n+(i*n+j)-n=i*n+j by omega];exact ih i (by simpa using hi)
theorem GA{α:Type}(f:α->List Value)(n:Nat)(hf:∀a,(f a).length=n)(l:List α)(i j:Nat)(hi:i<l.length)(hj:j<n)(a':α)(v:Value)(ha:f a'=(f l[i]).set j v) :
  (l.flatMap f).set (i*n+j) v=(l.set i a').flatMap f:=by
 induction l generalizing i with
 | nil=>simp at hi
 | cons a l ih =>
  cases i with
  | zero =>
   rw[List.set_cons_zero,List.flatMap_cons,List.flatMap_cons,List.set_append_left _ _ (by rw[hf];omega),ha];simp
  | succ i =>
   have e:(i+1)*n+j=n+(i*n+j):=by rw[Nat.add_mul];omega
   rw[List.set_cons_succ,List.flatMap_cons,List.flatMap_cons,List.set_append_right _ _ (by rw[hf,e];omega),hf,e,show n+(i*n+j)-n=i*n+j by omega];rw[ih i (by simpa using hi) (by simpa using ha)]
theorem GB(l:List St)(H:Nat->Hd):(kQ l H).length=l.length*8:=by
 unfold kQ;rw[zO _ 8 (fun _=>rfl)];simp
theorem Br(l:List (ByteArray×Pl)):(lP l).length=l.length*4:=zO _ 4 (fun _=>rfl) l
theorem Cq(l:List St)(H:Nat->Hd)(i:Nat)(hi:i<l.length)(j:Nat)(hj:j<8):(kQ l H)[i*8+j]?=(Fe l[i] (H (10+2*i)) (H (11+2*i)))[j]?:=by
 unfold kQ;rw[yG _ 8 (fun _=>rfl) _ i j (by simpa using hi) hj];simp
theorem EJ(l:List (ByteArray×Pl))(i:Nat)(hi:i<l.length)(j:Nat)(hj:j<4):(lP l)[i*4+j]?=(oP l[i])[j]?:=yG _ 4 (fun _=>rfl) l i j hi hj
theorem Fn(l:List St)(s:St)(H:Nat->Hd):kQ (l++[s]) H=kQ l H++Fe s (H (10+2*l.length)) (H (11+2*l.length)):=by
 unfold kQ;rw[List.zipIdx_append];simp
theorem Ag(l:List St)(i:Nat)(s:St):(l.set i s).zipIdx=l.zipIdx.set i (s,i):=by
 apply List.ext_getElem?
 intro j;simp only[List.getElem?_zipIdx,List.getElem?_set,List.length_zipIdx]
 by_cases e:i=j
 ·subst e
  by_cases hi:i<l.length <;> simp[hi]
 ·simp[e]
theorem Fz(l:List St)(H:Nat->Hd)(i:Nat)(hi:i<l.length)(N:Nat):(kQ l H).set (i*8+7) (.int .i64 N)=kQ (l.set i { l[i] with til:=N }) H:=by
 unfold kQ;rw[Ag];exact GA _ 8 (fun _=>rfl) _ i 7 (by simpa using hi) (by omega) _ _ (by simp[Fe])
theorem zR(l:List ByteArray):(dN l).length=l.length*1:=by simp[dN]
theorem vK(l:List Nat)(x:Nat):iZ (l++[x])=iZ l++[.int .i64 x]:=by simp[iZ]
theorem kT(l:List Nat)(x:Nat):(⟨(bq l).e,(bq l).size,(bq l).n+1,(bq l).xs++[.int .i64 x]⟩:dK)=bq (l++[x]):=by simp[bq,vK]
theorem vw:(Tryz.prog.info? 3).map (fun i=>(i.zero,i.size,i.bytes))=some (some (.int .i64 0),1,8):=by kernel_rfl
def CG(k:Int):Bool:=k==4||k==5
theorem du(k:Int)(a1 a2 a3 a4 a5 a6 a7:Value)(w:World) :
  Calls Tryz.prog 160 #[.agg #[.int .i64 k,a1,a2,a3,a4,a5,a6,a7]] w fun e w'=>e=.returned (.bool (CG k))/\ab [] w w':=by
 cases h4:(k==4)
 ·have HT:Hid (CG k=(k==5)):=by show CG k=_;simp only[CG,h4,Bool.false_or]
  go_enter Tryz.func160,Tryz.ntmps160;go_wp2;go_ret;exact⟨aB (by rw[HT.out]),(ab.refl _ _).alloc _⟩
 ·have HT:Hid (CG k=true):=by show CG k=_;simp only[CG,h4,Bool.true_or]
  go_enter Tryz.func160,Tryz.ntmps160;go_wp2;go_ret;exact⟨aB (by rw[HT.out]),(ab.refl _ _).alloc _⟩
set_option maxRecDepth 100000 in
theorem wX(b t o:Nat)(pre post:List Value)(d:Db)(H:Nat->Hd)(w:World)(h:aN w b t pre post d H)(ho:pre.length=o)(hs:eS d 100000000) :
  Calls Tryz.prog 247 #[.pointer (some ⟨b,o+6,none⟩)] w fun e w'=>e=.returned (.tuple #[])/\∃H',aN w' b t pre post { d with rbl:=d.rbl++[d.sts.length] } H'/\aw b w H w' H':=by
 obtain⟨i0,hi,hz0,hz1,hz2⟩:=info_parts vw;obtain⟨q0,q1,q2,q3,q4,q5,q6,q7,q8,q9,q10,q11,q12⟩:=h.cells o ho;clear q0 q1 q2 q3 q4 q5 q8 q9 q10 q11 q12;have hfr:=h.free;have hbw:=h.lt;have hl1:=hs.rbl;have hD:Hid (aN (w.alloc (.cells #[.int .i64 d.sts.length] 3)).drew b t pre post d H):=h.still ((ab.refl [] w).alloc _).drew
 have s2:Hid (∀j u,([.int .i64 d.sts.length]:List Value)[j]?=some u->(w.alloc (.cells #[.int .i64 d.sts.length] 3)).drew.cell? ((⟨w.heap.size,0,none⟩:Addr).add j)=some u):=by
  intro j u hj;have hk:(w.alloc (.cells #[.int .i64 d.sts.length] 3)).drew.heap[w.heap.size]?=some (.cells #[.int .i64 d.sts.length] 3 (0,0)):=heap_alloc_new _ _;rw[bK,aa hk];simpa using hj
 have s3:Hid (∀u∈([.int .i64 d.sts.length]:List Value),u.oneCell'=true):=by intro u hu;simp at hu;subst hu;rfl
 have s4:Hid ((bq d.rbl).n+1<=maxLen):=by show _<=_;simp only[bq];unfold maxLen;omega
 have s5:Hid (((bq d.rbl).n+1)*8<=140737488355328):=by show _<=_;simp only[bq];omega
 clear h;go_enter Tryz.func247,Tryz.ntmps247;go_wp2_with fail
 go_region_law (refine cd rfl (.tmp 6) (.tmp 12) 26 rfl i0 (.int .i64 0) 8 (H 7) (bq d.rbl) Tryz.underlying26 hi hz0 hz1 hz2 rfl Nat.one_pos (by simp[Act.eval] <;> rfl) (hD.out.own 7) ⟨w.heap.size,0,none⟩ 1 1 [.int .i64 d.sts.length] (by simp[Act.eval]) rfl s2.out s3.out Nat.one_pos s4.out s5.out ?_;intro g cap' w1 hw1 hgr hfresh;obtain⟨k5,f5,HP⟩:=hD.out.app (d':={ d with rbl:=d.rbl++[d.sts.length] }) o 7 ho 7 (by omega) g cap' ((bq d.rbl).n+1) _ hw1 (kT d.rbl _) hgr (by simpa using hfresh) (yw d H _) (by omega) _ rfl (by simp[bU,fI,bq]);clear hw1 hgr hfresh)
 all_goals go_wp2
 all_goals go_end0
 all_goals exact⟨rfl,_,HP.out.1,HP.out.2.first ((ab.refl [] w).alloc _).drew⟩
def oI(N:Nat)(s:St):St:=if s.til=0/\CG s.kind=false then { s with til:=N } else s
def eJ(l:List St)(b n:Nat):List St:=l.mapIdx (fun i s=>if b<=i/\i<n then oI l.length s else s)
def jk(l:List St)(b:Nat):List St:=eJ l b l.length
theorem jc(l:List St)(b n:Nat):(eJ l b n).length=l.length:=by simp[eJ]
theorem lY(l:List St)(b n i:Nat):(eJ l b n)[i]?=l[i]?.map (fun s=>if b<=i/\i<n then oI l.length s else s):=by simp[eJ]
theorem yS(l:List St)(b:Nat):eJ l b b=l:=by
 apply List.ext_getElem?
 intro i;rw[lY];have:¬(b<=i/\i<b):=by omega
 simp[this]
theorem tL(l:List St)(b n:Nat)(hb:b<=n)(hn:n<l.length):eJ l b (n+1)=(eJ l b n).set n (oI l.length l[n]):=by
 apply List.ext_getElem?
 intro i;rw[List.getElem?_set,lY,lY,jc]
 by_cases e:n=i
 ·subst e
  have h1:b<=n/\n<n+1:=⟨hb,by omega⟩;simp[hn,h1]
 ·have:(b<=i/\i<n+1) ↔ (b<=i/\i<n):=by omega
  simp[e,this]
theorem By(l:List St)(b n:Nat)(hb:b<=n)(hn:n<l.length)(h:oI l.length l[n]=l[n]):eJ l b (n+1)=eJ l b n:=by
 rw[tL l b n hb hn,h]
 apply List.ext_getElem?
 intro i;rw[List.getElem?_set,jc]
 by_cases e:n=i
 ·subst e
  rw[lY];simp[hn]
 ·simp[e]
theorem Gl(l:List St)(b n:Nat)(hn:n<l.length):(eJ l b n)[n]?=some l[n]:=by
 rw[lY];simp[hn]
theorem t8(l:List St)(n:Nat)(hn:n<l.length)(N:Nat)(i:Nat):fQ (l.set n { l[n] with til:=N }) i=fQ l i/\qs (l.set n { l[n] with til:=N }) i=qs l i:=by
 unfold fQ qs;rw[List.getElem?_set]
 by_cases e:n=i
 ·subst e;simp[hn]
 ·simp[e]
theorem aN.til{w:World}{b t:Nat}{pre post:List Value}{d:Db}{H:Nat->Hd}(h:aN w b t pre post d H)(g:Nat)(hg:(H 6).ao=some ⟨g,0,none⟩)(n:Nat)(hn:n<d.sts.length)(N:Nat) :
  aN (w.setCell ⟨g,n*8+7,none⟩ (.int .i64 N)) b t pre post { d with sts:=d.sts.set n { d.sts[n] with til:=N } } H/\aw b w H (w.setCell ⟨g,n*8+7,none⟩ (.int .i64 N)) H:=by
 have hb6:(H 6).blk=some g:=by unfold Hd.blk;rw[hg];rfl
 have hgb:g≠b:=by rintro rfl;exact h.off 6 hb6
 refine⟨⟨?_,?_,h.apart,h.off⟩,(dX.refl _ _).setCell (Or.inl (Or.inr ⟨6,hb6⟩)) _,fun _ hk=>Or.inl hk⟩
 ·rw[Below.heap_setCell _ _ _ _ (fun e=>hgb e.symm),h.blk]
  simp[bU]
 ·intro i
  by_cases e:i=6
  ·subst e
   have o6:aA w (H 6) (gB d.sts H):=h.own 6
   show aA _ (H 6) (gB (d.sts.set n { d.sts[n] with til:=N }) H)
   rcases o6.ways with ⟨e0,h0,_⟩ | ⟨g',cur,e1,e2,e3,e4,e5,e6⟩
   ·have:d.sts.length=0:=h0
    omega
   ·have:g'=g:=by rw[hg]at e1;injection e1 with e1;injection e1 with e1;exact e1.symm
    subst this;refine⟨by simp only[gB];rw[GB],Or.inr ⟨g',(H 6).cap,cur.setIfInBounds (n*8+7) (.int .i64 N),?_,Nat.zero_le _,ah e2 _ _,?_,e4,?_,?_⟩⟩
    ·simp[gB,hg]
    ·simpa [gB] using e3
    ·simpa [gB] using e5
    ·have e6':cur.toList.take (d.sts.length*8)=kQ d.sts H:=e6
     simp only[gB,List.length_set,Array.toList_setIfInBounds,List.take_set,e6'];exact Fz d.sts H n hn N
  ·have hr:aP { d with sts:=d.sts.set n { d.sts[n] with til:=N } } H i=aP d H i:=by
    match i,e with
    | 0,_=>rfl
    | 1,_=>rfl
    | 2,_=>rfl
    | 3,_=>rfl
    | 4,_=>rfl
    | 5,_=>rfl
    | 6,e=>exact absurd rfl e
    | 7,_=>rfl
    | 8,_=>rfl
    | 9,_=>rfl
    | m+10,_=>simp only[aP,inner,(t8 d.sts n hn N (m / 2)).1,(t8 d.sts n hn N (m / 2)).2]
   rw[hr];refine(h.own i).moved (fun k hk=>Below.heap_setCell _ _ _ _ ?_);rintro rfl
   rcases h.apart i 6 e with a | a
   ·rw[a]at hk;cases hk
   ·exact a (hk.trans hb6.symm)
theorem aN.stmt{w:World}{b t:Nat}{pre post:List Value}{d:Db}{H:Nat->Hd}(h:aN w b t pre post d H)(g:Nat)(hg:(H 6).ao=some ⟨g,0,none⟩)(n:Nat)(s:St)(hs:d.sts[n]?=some s) :
  w.cell? ⟨g,n*8,none⟩=some (.int .i64 s.kind)/\w.cell? ⟨g,n*8+1,none⟩=some (.string s.label)/\w.cell? ⟨g,n*8+2,none⟩=some (.slice (H (10+2*n)).ao s.symbols.length (H (10+2*n)).cap) /\
  w.cell? ⟨g,n*8+3,none⟩=some (.slice (H (11+2*n)).ao s.proof.length (H (11+2*n)).cap)/\w.cell? ⟨g,n*8+4,none⟩=some (.string s.fin.file)/\w.cell? ⟨g,n*8+5,none⟩=some (.int .i64 s.fin.line) /\
  w.cell? ⟨g,n*8+6,none⟩=some (.int .i64 s.fin.col)/\w.cell? ⟨g,n*8+7,none⟩=some (.int .i64 s.til):=by
 obtain⟨hn,rfl⟩:=List.getElem?_eq_some_iff.1 hs;have o6:aA w (H 6) (gB d.sts H):=h.own 6;have c:=fun j (hj:j<8) v (hv:(Fe d.sts[n] (H (10+2*n)) (H (11+2*n)))[j]?=some v)=>o6.cell hg (n*8+j) v ((Cq d.sts H n hn j hj).trans hv)
 exact⟨c 0 (by omega) _ rfl,c 1 (by omega) _ rfl,c 2 (by omega) _ rfl,c 3 (by omega) _ rfl,c 4 (by omega) _ rfl,c 5 (by omega) _ rfl,c 6 (by omega) _ rfl,c 7 (by omega) _ rfl⟩
theorem zx(l:List Nat):(iZ l).length=l.length*1:=by simp[iZ]
theorem aA.popN{w:World}{h:Hd}{l:List Nat}{x:Nat}(o:aA w h (bq (l++[x]))):aA w h (bq l):=by
 rcases o.ways with ⟨e0,h0,_⟩ | ⟨g,cur,e1,e2,e3,e4,e5,e6⟩
 ·have h0':(l++[x]).length=0:=h0
  simp at h0'
 ·obtain⟨ao,cap⟩:=h
  simp only at e1 e3 e4 e5;subst e1;have e3':(l++[x]).length<=cap:=e3;simp at e3';refine⟨by simp only[bq];exact zx l,Or.inr ⟨g,cap,cur,rfl,Nat.zero_le _,e2,?_,e4,e5,?_⟩⟩
  ·simp only[bq];omega
  ·have e6':cur.toList.take ((l++[x]).length*1)=iZ (l++[x]):=e6
   simp only[bq];have e7:iZ l=(iZ (l++[x])).take (l.length*1):=by rw[vK,List.take_left' (zx l)]
   rw[e7,<-e6',List.take_take]
   congr 1
   simp
set_option maxRecDepth 100000 in
theorem Ar(b t o:Nat)(pre post:List Value)(d:Db)(H:Nat->Hd)(bl:List Nat)(x:Nat)(w:World)(h:aN w b t pre post d H)(ho:pre.length=o)(hbl:d.rbl=bl++[x])(hs:eS d 100000000)(hx:x<=d.sts.length) :
  Calls Tryz.prog 249 #[.pointer (some ⟨b,o+6,none⟩)] w fun e w'=>e=.returned (.tuple #[])/\aN w' b t pre post { d with rbl:=bl,sts:=jk d.sts x } H/\aw b w H w' H:=by
 obtain⟨q0,q1,q2,q3,q4,q5,q6,q7,q8,q9,q10,q11,q12⟩:=h.cells o ho;clear q0 q1 q2 q3 q4 q5 q8 q9 q10 q11 q12;have hfr:=h.free;have hbw:=h.lt;have hw7:aA w (H 7) (bq (bl++[x])):=by have:=h.own 7;simp only[aP,hbl]at this;exact this
 have hlen:=hs.rbl;have hlen6:=hs.sts;rw[hbl]at hlen q7;simp only[List.length_append,List.length_cons,List.length_nil]at hlen q7
 rcases hw7.ways with ⟨e0,h0,_⟩ | ⟨g,cur,e1,e2,e3,e4,e5,e6⟩
 ·have h0':(bl++[x]).length=0:=h0
  simp at h0'
 ·have p1:=hw7.cell e1 bl.length (.int .i64 x) (by simp[bq,iZ])
  have hcap:bl.length+1<=(H 7).cap:=by have:(bl++[x]).length<=(H 7).cap:=e3;simpa using this
  have hcap2:(H 7).cap<=9223372036854775807:=by unfold maxLen at e4;exact e4
  have P1:=oc 7 7 (d':={ d with rbl:=bl }) h ho (by omega) hw7.popN (yw d H bl) (.slice (some ⟨g,0,none⟩) bl.length (H 7).cap) (by omega) (by simp[bU,fI,e1]);rw[e1]at q7;have HP:=(show Hid _ from P1);clear hw7 e3 e4 e5 e6 e2 h P1;go_enter Tryz.func249,Tryz.ntmps249;go_wp2
  go_loopg [4] (d.sts.length-x) (fun g i wr=>∃k:Nat,x<=k/\k<=d.sts.length/\g=d.sts.length-k/\i=.int .i64 k/\aN wr b t pre post { d with rbl:=bl,sts:=eJ d.sts x k } H/\aw b w H wr H)
  case atStart=>exact⟨x,by omega,hx,rfl,rfl,by rw[yS];exact HP.out.1,HP.out.2⟩
  case round =>
   obtain⟨k,hk1,hk2,hg,rfl,D,T⟩:=hrel;clear HP q6 q7 p1 hfr;obtain⟨q0,q1,q2,q3,q4,q5,q6,q7,q8,q9,q10,q11,q12⟩:=D.cells o ho;clear q0 q1 q2 q3 q4 q5 q7 q8 q9 q10 q11 q12;have hfr:=D.free;simp only[jc]at q6
   by_cases hlt:k<d.sts.length
   ·have hat:=Gl d.sts x k hlt
    have hw6:aA wr (H 6) (gB (eJ d.sts x k) H):=D.own 6
    rcases hw6.ways with ⟨_,h0,_⟩ | ⟨g6,cur6,e6,e62,e63,-⟩
    ·have:(eJ d.sts x k).length=0:=h0
     rw[jc]at this;omega
    ·obtain⟨c0,c1,c2,c3,c4,c5,c6,c7⟩:=D.stmt g6 e6 k _ hat
     rw[e6]at q6;have hfg:=ak e62
     have HS:Hid (∀N:Nat,aN wr b t pre post { d with rbl:=bl,sts:=eJ d.sts x k } H->∀w1,ab [] wr w1->aN (w1.setCell ⟨g6,k*8+7,none⟩ (.int .i64 N)) b t pre post { d with rbl:=bl,sts:=(eJ d.sts x k).set k { d.sts[k] with til:=N } } H/\aw b w H (w1.setCell ⟨g6,k*8+7,none⟩ (.int .i64 N)) H):=by
      intro N D w1 hk1;have D1:=D.still hk1;have hn:k<(eJ d.sts x k).length:=by rw[jc];exact hlt
      have P:=D1.til g6 e6 k hn N;have es:(eJ d.sts x k)[k]=d.sts[k]:=by have:=hat;rw[List.getElem?_eq_getElem hn]at this;simpa using this
      simp only[es]at P;exact⟨P.1,(T.still hk1).trans P.2⟩
     have H1:Hid (oI d.sts.length d.sts[k]=d.sts[k]->eJ d.sts x (k+1)=eJ d.sts x k):=By d.sts x k hk1 hlt;have H2:Hid (eJ d.sts x (k+1)=(eJ d.sts x k).set k (oI d.sts.length d.sts[k])):=tL d.sts x k hk1 hlt;have hgw:=ae e62;have hcg:=e62;have hat2:=(show Hid _ from hat);have hcap6:d.sts.length<=(H 6).cap:=by have:(eJ d.sts x k).length<=(H 6).cap:=e63;rw[jc]at this;exact this
     clear hat hw6 e62 e63;generalize d.sts[k]=s at *
     cases hz:((s.til:Int)==0)
     ·have HT:Hid (eJ d.sts x (k+1)=eJ d.sts x k):=H1.out (by
       have:¬s.til=0:=by intro e;simp[e]at hz
       simp[oI,this])
      clear HS H1 H2 hfg;go_wp2
      go_roundg (d.sts.length-(k+1))
      case measure=>omega
      case rel=>exact⟨k+1,by omega,by omega,rfl,by go_num,by rw[HT.out];exact D,T⟩
     ·have hz':s.til=0:=by have:=eq_of_beq hz;omega
      cases ha:CG s.kind
      ·have HT:Hid (eJ d.sts x (k+1)=(eJ d.sts x k).set k { s with til:=d.sts.length }):=by
        show _=_;rw[H2.out];simp[oI,hz',ha]
       clear H1 H2 hz';go_wp2_with (go_at_call 160;refine(du s.kind _ _ _ _ _ _ _ _).mono ?_;rintro e w1 ⟨rfl,hk3⟩;have hG6:=hk3.get hcg (by simp));have D1:=D.still hk3;have PS:=(show Hid _ from fun N=>HS.out N D _ hk3);obtain⟨q0,q1,q2,q3,q4,q5,q6,q7,q8,q9,q10,q11,q12⟩:=D1.cells o ho;clear q0 q1 q2 q3 q4 q5 q7 q8 q9 q10 q11 q12;simp only[jc,e6]at q6;obtain⟨c0,c1,c2,c3,c4,c5,c6,c7⟩:=D1.stmt g6 e6 k _ hat2.out;clear c0 c1 c2 c3 c4 c5 c6;have hfg:=ak hG6;have hfr:=D1.free
       go_region
       all_goals go_wp2
       all_goals
        go_roundg (d.sts.length-(k+1))
        case measure=>omega
        case rel=>exact⟨k+1,by omega,by omega,rfl,by go_num,by rw[HT.out];exact(PS.out _).1.still (ab.refl [] _).drew,(PS.out _).2.still (ab.refl [] _).drew⟩
      ·have HT:Hid (eJ d.sts x (k+1)=eJ d.sts x k):=H1.out (by simp[oI,ha])
       clear HS H1 H2 hfg hz';go_wp2_with (go_at_call 160;refine(du s.kind _ _ _ _ _ _ _ _).mono ?_;rintro e w1 ⟨rfl,hk3⟩)
       go_roundg (d.sts.length-(k+1))
       case measure=>omega
       case rel=>exact⟨k+1,by omega,by omega,rfl,by go_num,by rw[HT.out];exact D.still hk3,T.still hk3⟩
   ·have e:k=d.sts.length:=by omega
    subst e;go_wp2;go_end0;exact⟨rfl,D,T⟩
theorem Lz:(Tryz.prog.info? 158).map (fun i=>(i.zero,i.size,i.bytes))=some (some (.agg #[.int .i64 0,.string ⟨#[]⟩,.slice none 0 0,.slice none 0 0,.string ⟨#[]⟩,.int .i64 0,.int .i64 0,.int .i64 0]),8,112):=by kernel_rfl
theorem J1:(Tryz.prog.info? 229).map (fun i=>(i.zero,i.size,i.bytes))=some (some (.agg #[.string ⟨#[]⟩,.string ⟨#[]⟩,.int .i64 0,.int .i64 0]),4,48):=by kernel_rfl
theorem rO(l:List St)(H H':Nat->Hd)(h:∀j,j<10+2*l.length->H' j=H j):kQ l H'=kQ l H:=by
 unfold kQ;rw[List.flatMap_def,List.flatMap_def]
 congr 1
 apply List.map_congr_left
 intro p hp
 have:p.2<l.length:=by
  have:=List.snd_lt_add_of_mem_zipIdx hp;omega
 rw[h _ (by omega),h _ (by omega)]
theorem Gn(w:World)(h:Hd)(l:List ByteArray)(o:aA w h (aD l)):aA w h (aD []):=by
 have:=o.taken 0;simpa using this
theorem GY(w:World)(h:Hd)(l:List (ByteArray×Pl))(o:aA w h (fA l)):aA w h (fA []):=by
 rcases o.ways with ⟨e0,h0,_⟩ | ⟨g,cur,e1,e2,e3,e4,e5,e6⟩
 ·subst e0
  exact⟨by simp[fA,lP],Or.inl ⟨by simp[fA],by simp[fA]⟩⟩
 ·obtain⟨ao,cap⟩:=h
  simp only at e1 e3 e4 e5;subst e1;exact⟨by simp[fA,lP],Or.inr ⟨g,cap,cur,rfl,Nat.zero_le _,e2,by simp[fA],e4,e5,by simp[fA,lP]⟩⟩
theorem aN.addst{w0 w w1:World}{b t o:Nat}{pre post:List Value}{d:Db}{H:Nat->Hd}(h0:aN w0 b t pre post d H)(hk0:ab [] w0 w)(ho:pre.length=o)(s:St)(hs hp:Hd)(gs gp:Nat)
  (hsb:hs.blk=some gs) (hpb:hp.blk=some gp) (hs0:w0.heap.size<=gs) (hp0:w0.heap.size<=gp) (hne:gs≠gp) (os:aA w hs (aD s.symbols)) (op:aA w hp (fA s.proof))
  (g cap':Nat) (hw1:aA w1 ⟨some ⟨g,0,none⟩,cap'⟩ ⟨(gB d.sts H).e,(gB d.sts H).size,(gB d.sts H).n+1,(gB d.sts H).xs++Fe s hs hp⟩) (hgr:w.grownBy w1 (H 6).blk) (hfresh:(H 6).blk=some g∨w.heap.size<=g) :
  w1.cell? ⟨b,o+6,none⟩=some (.slice (H 6).ao d.sts.length (H 6).cap)/\w1.frozen? ⟨b,o+6,none⟩=false /\
  Hid (∃H',aN (w1.setCell ⟨b,o+6,none⟩ (.slice (some ⟨g,0,none⟩) ((gB d.sts H).n+1) cap')) b t pre post { d with sts:=d.sts++[s] } H' /\
   aw b w0 H (w1.setCell ⟨b,o+6,none⟩ (.slice (some ⟨g,0,none⟩) ((gB d.sts H).n+1) cap')) H'/\∀j,j<10->j≠6->H' j=H j):=by
 have h:=h0.still hk0;have hk:=(hgr.block b h.lt (fun e=>h.off 6 e.symm)).trans h.blk;refine⟨(aa hk (o+6)).trans (xh pre (bU d H) post o 6 ho (by simp[bU])),ak hk _,?_⟩;have hlt:=fun {k} (hk:fk H k)=>h0.inlt hk
 have hbl:=h0.lt;obtain⟨H1,hH1⟩:∃H1,H1=fI (fI H (10+2*d.sts.length) hs) (11+2*d.sts.length) hp:=⟨_,rfl⟩
 have e1:∀j,j≠10+2*d.sts.length->j≠11+2*d.sts.length->H1 j=H j:=fun j a c=>by rw[hH1,bL _ _ _ _ c,bL _ _ _ _ a]
 have e2:H1 (10+2*d.sts.length)=hs:=by rw[hH1,bL _ _ _ _ (by omega),cG]
 have e3:H1 (11+2*d.sts.length)=hp:=by rw[hH1,cG]
 have e4:kQ d.sts H1=kQ d.sts H:=rO _ _ _ (fun j hj=>e1 j (by omega) (by omega));clear hH1
 have el:bU d H1=bU d H:=by
  unfold bU;rw[e1 0 (by omega) (by omega),e1 1 (by omega) (by omega),e1 2 (by omega) (by omega),e1 3 (by omega) (by omega),e1 4 (by omega) (by omega),e1 5 (by omega) (by omega),e1 6 (by omega) (by omega),e1 7 (by omega) (by omega),e1 8 (by omega) (by omega),e1 9 (by omega) (by omega)]
 have er:∀j,aP d H1 j=aP d H j:=by
  intro j;unfold aP
  split <;> first | rfl | (simp only[gB,e4])
 have bk:∀j,(H1 j).blk=(H j).blk∨((H1 j).blk=some gs/\j=10+2*d.sts.length)∨((H1 j).blk=some gp/\j=11+2*d.sts.length):=by
  intro j
  by_cases a:j=10+2*d.sts.length
  ·subst a;rw[e2];exact Or.inr (Or.inl ⟨hsb,rfl⟩)
  ·by_cases c:j=11+2*d.sts.length
   ·subst c;rw[e3];exact Or.inr (Or.inr ⟨hpb,rfl⟩)
   ·rw[e1 j a c];exact Or.inl rfl
 have D1:aN w b t pre post d H1:=by
  refine⟨by rw[el];exact h.blk,?_,?_,?_⟩
  ·intro j
   rw[er j]
   by_cases a:j=10+2*d.sts.length
   ·subst a
    rw[e2]
    have:aP d H (10+2*d.sts.length)=aD []:=by
     rw[show 10+2*d.sts.length=2*d.sts.length+10 by omega];simp[aP,inner,fQ]
    rw[this];exact Gn w hs _ os
   ·by_cases c:j=11+2*d.sts.length
    ·subst c
     rw[e3]
     have:aP d H (11+2*d.sts.length)=fA []:=by
      rw[show 11+2*d.sts.length=(2*d.sts.length+1)+10 by omega];have q:(2*d.sts.length+1) % 2=1:=by omega
      have q2:(2*d.sts.length+1) / 2=d.sts.length:=by omega
      simp[aP,inner,qs,q,q2]
     rw[this];exact GY w hp _ op
    ·rw[e1 j a c];exact h.own j
  ·intro i j hij
   have f:∀i k,(H i).blk=some k->k<w0.heap.size:=fun i k e=>hlt ⟨i,e⟩
   rcases bk i with a | ⟨a,ai⟩ | ⟨a,ai⟩ <;> rcases bk j with c | ⟨c,cj⟩ | ⟨c,cj⟩ <;> rw[a,c]
   ·exact h.apart i j hij
   ·cases e:(H i).blk with
    | none=>exact Or.inl rfl
    | some k=>right;intro ek;cases ek;have:=f i _ e;omega
   ·cases e:(H i).blk with
    | none=>exact Or.inl rfl
    | some k=>right;intro ek;cases ek;have:=f i _ e;omega
   ·right;intro ek;have:=f j _ ek.symm;omega
   ·omega
   ·right;intro ek;cases ek;exact hne rfl
   ·right;intro ek;have:=f j _ ek.symm;omega
   ·right;intro ek;cases ek;exact hne rfl
   ·omega
  ·intro j
   rcases bk j with a | ⟨a,_⟩ | ⟨a,_⟩ <;> rw[a]
   ·exact h.off j
   ·intro e;cases e;omega
   ·intro e;cases e;omega
 have T1:aw b w0 H w H1:=by
  refine⟨hk0.toP (by simp),?_⟩;rintro k ⟨j,hj⟩
  rcases bk j with a | ⟨a,_⟩ | ⟨a,_⟩ <;> rw[a]at hj
  ·exact Or.inl ⟨j,hj⟩
  ·cases hj;exact Or.inr hs0
  ·cases hj;exact Or.inr hp0
 have h6:H1 6=H 6:=e1 6 (by omega) (by omega)
 have er6:aP { d with sts:=d.sts++[s] } H1 6=⟨(gB d.sts H).e,(gB d.sts H).size,(gB d.sts H).n+1,(gB d.sts H).xs++Fe s hs hp⟩:=by
  simp only[aP,gB,Fn,e2,e3,e4,List.length_append,List.length_cons,List.length_nil]
 have P:=D1.putG (d':={ d with sts:=d.sts++[s] }) o 6 ho 6 (by omega) ⟨some ⟨g,0,none⟩,cap'⟩ (by rw[er6];exact hw1) (by rw[h6];exact hgr)
  (by rcases hfresh with e | e
    ·exact Or.inr (Or.inl (by rw[h6];exact e.symm))
    ·exact Or.inr (Or.inr ⟨g,rfl,e⟩))
  (by
   intro j hj
   by_cases a:j=10+2*d.sts.length
   ·subst a
    rw[e2]
    have:aP { d with sts:=d.sts++[s] } H1 (10+2*d.sts.length)=aD s.symbols:=by
     rw[show 10+2*d.sts.length=2*d.sts.length+10 by omega];simp[aP,inner,fQ]
    rw[this];exact os
   ·by_cases c:j=11+2*d.sts.length
    ·subst c
     rw[e3]
     have:aP { d with sts:=d.sts++[s] } H1 (11+2*d.sts.length)=fA s.proof:=by
      rw[show 11+2*d.sts.length=(2*d.sts.length+1)+10 by omega];have q:(2*d.sts.length+1) % 2=1:=by omega
      have q2:(2*d.sts.length+1) / 2=d.sts.length:=by omega
      simp[aP,inner,qs,q,q2]
     rw[this];exact op
    ·have:aP { d with sts:=d.sts++[s] } H1 j=aP d H1 j:=by
      match j,hj,a,c with
      | 0,_,_,_=>rfl
      | 1,_,_,_=>rfl
      | 2,_,_,_=>rfl
      | 3,_,_,_=>rfl
      | 4,_,_,_=>rfl
      | 5,_,_,_=>rfl
      | 6,hj,_,_=>exact absurd rfl hj
      | 7,_,_,_=>rfl
      | 8,_,_,_=>rfl
      | 9,_,_,_=>rfl
      | m+10,_,a,c =>
       have hm:m / 2≠d.sts.length:=by omega
       have e:(d.sts++[s])[m / 2]?=d.sts[m / 2]?:=by
        rcases Nat.lt_or_ge (m / 2) d.sts.length with hl | hl
        ·exact List.getElem?_append_left hl
        ·rw[List.getElem?_append_right hl,List.getElem?_eq_none hl,List.getElem?_eq_none (by simp;omega)]
       simp only[aP,inner,fQ,qs,e]
     rw[this];exact D1.own j)
  (.slice (some ⟨g,0,none⟩) ((gB d.sts H).n+1) cap') (by omega) (by
   rw[el];have u:∀j,j<10->j≠6->fI H1 6 (⟨some ⟨g,0,none⟩,cap'⟩:Hd) j=H j:=fun j hj hn=>by rw[bL _ _ _ _ hn];exact e1 j (by omega) (by omega)
   unfold bU;rw[u 0 (by omega) (by omega),u 1 (by omega) (by omega),u 2 (by omega) (by omega),u 3 (by omega) (by omega),u 4 (by omega) (by omega),u 5 (by omega) (by omega),u 7 (by omega) (by omega),u 8 (by omega) (by omega),u 9 (by omega) (by omega),cG];simp[gB])
 exact⟨_,P.1,T1.trans P.2,fun j hj hn=>by rw[bL _ _ _ _ hn];exact e1 j (by omega) (by omega)⟩
end Go.Proofs.YtpddjjabfbfifaaGreat

import Derived.Deep.RegionHeld3
import Derived.Deep.RegionLaw
import Derived.Deep.CutRange
import Derived.Test.YtpddjjabfbfifaaGreatG31
namespace Go.Proofs.YtpddjjabfbfifaaGreat
open Go.RowKit
set_option maxHeartbeats 40000000
def pX(b t:Nat)(c:List Value):It where
 B:=[b]
 P w:=w.heap[b]?=some (.cells c.toArray t (0,0))
 lt w h q hq:=by rw[List.mem_singleton.1 hq];exact ae h
 ok S w w' h k hb:=k.get h (hb b (by simp))
def dd(h:Hd)(r:dK):It where
 B:=h.blk.toList
 P w:=aA w h r
 lt w o q hq:=o.lt (aK hq)
 ok S w w' o k hb:=o.moved (fun q hq=>k.block q (o.lt hq) (hb q (by rw[hq];simp)))
def Kv(x:Nat)(fs:Fs):It where
 B:=[x]
 P w:=bW w x fs
 lt w h q hq:=by rw[List.mem_singleton.1 hq];exact h.lt
 ok S w w' h k hb:=h.kept k (hb x (by simp))
def J8(v:Nat)(h:Hd)(fs:Fs):It where
 B:=v :: h.blk.toList
 P w:=cW w v h fs
 lt w a q hq:=by
  obtain⟨on,p2,p3,p4,a⟩:=a
  rcases List.mem_cons.1 hq with rfl | hq
  ·exact ae a.d
  ·exact a.own.lt (aK hq)
 ok S w w' a k hb:=by
  obtain⟨on,p2,p3,p4,a⟩:=a;exact⟨on,p2,p3,p4,a.keptS k (hb v (by simp)) (fun q hq=>hb q (by rw[hq];simp))⟩
structure gC(w:World)(bo:Option Nat)(fs:Fs):Prop where
 nil:bo=none->fs=[]
 blk:∀b,bo=some b->w.heap[b]?=some (.cells (oD fs).toArray 68 (0,0))
def rN(bo:Option Nat)(fs:Fs):It where
 B:=bo.toList
 P w:=gC w bo fs
 lt w a q hq:=by
  cases bo with
  | none=>cases hq
  | some b=>rw[Option.toList_some,List.mem_singleton]at hq;rw[hq];exact ae (a.blk b rfl)
 ok S w w' a k hb:=⟨a.nil,fun b e=>k.get (a.blk b e) (hb b (by rw[e];simp))⟩
def GB(bo:Option Nat):Option Addr:=bo.map (fun b=>⟨b,0,none⟩)
def xn(x:Option Nat×Fs):Value:=.slice (GB x.1) x.2.length x.2.length
def fQ(l:List (Option Nat×Fs)):dK:=⟨33,1,l.length,l.map xn⟩
def Jw(x:Nat):Value:=.pointer (some ⟨x,0,none⟩)
def j4(t:Nat)(l:List Nat):dK:=⟨t,1,l.length,l.map Jw⟩
structure Mc where
 hx:Hd
 hm:Hd
 hr:Hd
 hl:Hd
 hc:Hd
 V:List (Nat×Nat×Fs)
 reg:Fs
 L:List (Option Nat×Option Nat×Fs)
 a:Int
 n:Int
 e:Int
 u:Int
 s:ByteArray
 p:Int
 q:Int
 f:ByteArray
 i:Int
 j:Int
def Mc.cells(M:Mc):List Value:=[.slice M.hx.ao M.V.length M.hx.cap,.slice M.hm.ao M.V.length M.hm.cap,.slice M.hr.ao M.reg.length M.hr.cap,.slice M.hl.ao M.L.length M.hl.cap,.slice M.hc.ao M.L.length M.hc.cap,.int .i64 M.a,.int .i64 M.n,.int .i64 M.e,.int .i64 M.u,.string M.s,.int .i64 M.p,.int .i64 M.q,.string M.f,.int .i64 M.i,.int .i64 M.j,.slice none 0 0,.slice none 0 0]
structure bM(w:World)(b:Nat)(I:Nat×Nat->It)(M:Mc)(N:Nat):Prop where
 sep:ny w I
 w0:I (0,0)=pX b 42 M.cells
 x:I (1,0)=dd M.hx (j4 46 (M.V.map (·.1)))
 m:I (2,0)=dd M.hm (j4 47 (M.V.map (·.2.1)))
 r:I (3,0)=dd M.hr (b8 M.reg)
 ls:I (4,0)=dd M.hl (fQ (M.L.map (fun l=>(l.1,l.2.2))))
 lw:I (5,0)=dd M.hc (fQ (M.L.map (fun l=>(l.2.1,l.2.2))))
 v:∀i x m fs,M.V[i]?=some (x,m,fs)->I (6,i)=Kv x fs/\(∃h,I (7,i)=J8 m h fs)/\∀j,j<fs.length->(aj fs j).size<=1024
 l:∀k a c fs,M.L[k]?=some (a,c,fs)->I (8,k)=rN a fs/\I (9,k)=rN c fs/\ke fs/\fs.length<=N
 fit:ke M.reg
 len:M.V.length<=N/\M.reg.length<=N/\M.L.length<=N
 rng:qC M.a/\qC M.n/\qC M.e
theorem bM.still{w w':World}{b N:Nat}{I:Nat×Nat->It}{M:Mc}(h:bM w b I M N)(k:ab [] w w'):bM w' b I M N:={ h with sep:=h.sep.still k }
theorem bM.more{w:World}{b N:Nat}{I:Nat×Nat->It}{M:Mc}(h:bM w b I M N):bM w b I M (N+1) :=
 { h with l:=fun k a c fs e=>by obtain⟨h1,h2,h3,h4⟩:=h.l k a c fs e;exact⟨h1,h2,h3,by omega⟩,len:=by obtain⟨h1,h2,h3⟩:=h.len;exact⟨by omega,by omega,by omega⟩ }
theorem bM.blk{w:World}{b N:Nat}{I:Nat×Nat->It}{M:Mc}(h:bM w b I M N):w.heap[b]?=some (.cells M.cells.toArray 42 (0,0)):=by
 have:=h.sep.all (0,0);rw[h.w0]at this;exact this
theorem bM.ownX{w:World}{b N:Nat}{I:Nat×Nat->It}{M:Mc}(h:bM w b I M N):aA w M.hx (j4 46 (M.V.map (·.1))):=by have:=h.sep.all (1,0);rw[h.x]at this;exact this
theorem bM.ownM{w:World}{b N:Nat}{I:Nat×Nat->It}{M:Mc}(h:bM w b I M N):aA w M.hm (j4 47 (M.V.map (·.2.1))):=by have:=h.sep.all (2,0);rw[h.m]at this;exact this
theorem bM.ownR{w:World}{b N:Nat}{I:Nat×Nat->It}{M:Mc}(h:bM w b I M N):aA w M.hr (b8 M.reg):=by have:=h.sep.all (3,0);rw[h.r]at this;exact this
theorem bM.ownL{w:World}{b N:Nat}{I:Nat×Nat->It}{M:Mc}(h:bM w b I M N):aA w M.hl (fQ (M.L.map (fun l=>(l.1,l.2.2)))):=by have:=h.sep.all (4,0);rw[h.ls]at this;exact this
theorem bM.ownC{w:World}{b N:Nat}{I:Nat×Nat->It}{M:Mc}(h:bM w b I M N):aA w M.hc (fQ (M.L.map (fun l=>(l.2.1,l.2.2)))):=by have:=h.sep.all (5,0);rw[h.lw]at this;exact this
theorem ny.grow{w w':World}{I:Nat×Nat->It}{k:Nat×Nat}{h h':Hd}{r r':dK}(s:ny w I)(e:I k=dd h r)(g:bh w w' h h')(o:aA w' h' r'):ny w' (ff I k (dd h' r')):=by
 refine s.put k _ (by rw[e];exact g.kept) o (fun q hq=>?_);have hq:=aK hq
 rcases g.blk with e2 | ⟨g2,e2,hg⟩
 ·left;rw[e];show q∈h.blk.toList;rw[<-e2,hq];simp
 ·right;rw[e2]at hq;cases hq;exact hg
theorem ny.turn{w w':World}{I:Nat×Nat->It}{k:Nat×Nat}{b t:Nat}{c c':List Value}(s:ny w I)(e:I k=pX b t c)(g:ab [b] w w')(o:w'.heap[b]?=some (.cells c'.toArray t (0,0))):ny w' (ff I k (pX b t c')) :=
 s.put k _ (by rw[e];exact g) o (fun q hq=>by rw[e];exact Or.inl hq)
def go(b:Nat)(I:Nat×Nat->It)(N:Nat)(r:Bool)(e:Ending)(w':World):Prop:=e=.returned (.bool r)/\∃I' M',bM w' b I' M' (N+1)/\I' (10,0)=I (10,0)
theorem bM.turn0{w w':World}{b N:Nat}{I:Nat×Nat->It}{M M':Mc}(h:bM w b I M N)(e:(M'.hx=M.hx/\M'.hm=M.hm/\M'.hr=M.hr/\M'.hl=M.hl/\M'.hc=M.hc)/\M'.V=M.V/\M'.reg=M.reg/\M'.L=M.L)(k:ab [b] w w')(o:w'.heap[b]?=some (.cells M'.cells.toArray 42 (0,0)))(hr:qC M'.a/\qC M'.n/\qC M'.e):bM w' b (ff I (0,0) (pX b 42 M'.cells)) M' N:=by
 obtain⟨⟨e1,e2,e3,e4,e5⟩,e6,e7,e8⟩:=e;have q:∀a i,a≠0->ff I (0,0) (pX b 42 M'.cells) (a,i)=I (a,i):=fun a i ha=>aq _ _ (bA ha)
 exact {
  sep:=h.sep.turn h.w0 k o
  w0:=bS _ _ _
  x:=by rw[q 1 0 (by decide),e1,e6];exact h.x
  m:=by rw[q 2 0 (by decide),e2,e6];exact h.m
  r:=by rw[q 3 0 (by decide),e3,e7];exact h.r
  ls:=by rw[q 4 0 (by decide),e4,e8];exact h.ls
  lw:=by rw[q 5 0 (by decide),e5,e8];exact h.lw
  v:=fun i x m fs hi=>by rw[q 6 i (by decide),q 7 i (by decide)];rw[e6]at hi;exact h.v i x m fs hi
  l:=fun i x m fs hi=>by rw[q 8 i (by decide),q 9 i (by decide)];rw[e8]at hi;exact h.l i x m fs hi
  fit:=by rw[e7];exact h.fit
  len:=by rw[e6,e7,e8];exact h.len
  rng:=hr }
theorem bM.boxed{w:World}{b N:Nat}{I:Nat×Nat->It}{M:Mc}(h:bM w b I M N)(k a c d:Int)(s t:ByteArray)(W:World)(hW:w.alloc (.cells #[.int .i64 k,.int .i64 a,.int .i64 c,.int .i64 d,.string s,.string t] 28)=W) :
  bM W b I M N/\W.heap[w.heap.size]?=some (.cells #[.int .i64 k,.int .i64 a,.int .i64 c,.int .i64 d,.string s,.string t] 28 (0,0))/\b<w.heap.size/\ab [] w W:=by
 have k0:ab [] w W:=by rw[<-hW];exact(ab.refl [] _).alloc _
 exact⟨h.still k0,by rw[<-hW];exact heap_alloc_new _ _,ae h.blk,k0⟩
theorem dZ{w:World}{B:Nat}{k a c d:Int}{s t:ByteArray}(h:w.heap[B]?=some (.cells #[.int .i64 k,.int .i64 a,.int .i64 c,.int .i64 d,.string s,.string t] 28 (0,0))) :
  w.cell? ⟨B,0,none⟩=some (.int .i64 k)/\w.cell? ⟨B,1,none⟩=some (.int .i64 a)/\w.cell? ⟨B,2,none⟩=some (.int .i64 c)/\w.cell? ⟨B,3,none⟩=some (.int .i64 d)/\w.cell? ⟨B,4,none⟩=some (.string s)/\w.cell? ⟨B,5,none⟩=some (.string t)/\B<w.heap.size:=by
 refine⟨?_,?_,?_,?_,?_,?_,ae h⟩ <;> (rw[aa h];rfl)
set_option maxRecDepth 100000 in
theorem KH(b N:Nat)(I:Nat×Nat->It)(M:Mc)(A C D:Int)(s t:ByteArray)(w:World)(h:bM w b I M N)(hA:qC A)(hC:qC C)(hD:qC D) :
  Calls Tryz.prog 11 #[.pointer (some ⟨b,0,none⟩),.agg #[.int .i64 7,.int .i64 A,.int .i64 C,.int .i64 D,.string s,.string t]] w fun e w'=>go b I N true e w':=by
 obtain⟨W,HW⟩:∃W,Hid (w.alloc (.cells #[.int .i64 7,.int .i64 A,.int .i64 C,.int .i64 D,.string s,.string t] 28)=W):=⟨_,rfl⟩
 obtain⟨hM,hB,hbw,-⟩:=h.boxed 7 A C D s t W HW.out;obtain⟨o0,o1,o2,o3,o4,o5,oz⟩:=dZ hB;have c5:W.cell? ⟨b,5,none⟩=some (.int .i64 M.a):=by rw[aa hM.blk];rfl
 have c6:W.cell? ⟨b,6,none⟩=some (.int .i64 M.n):=by rw[aa hM.blk];rfl
 have c7:W.cell? ⟨b,7,none⟩=some (.int .i64 M.e):=by rw[aa hM.blk];rfl
 have fb:=ak hM.blk;have bz:=ae hM.blk;have hne:b≠w.heap.size:=by omega
 have hne2:w.heap.size≠b:=by omega
 have HF:Hid (bM (((W.setCell ⟨b,5,none⟩ (.int .i64 A)).setCell ⟨b,6,none⟩ (.int .i64 C)).setCell ⟨b,7,none⟩ (.int .i64 D)) b _ { M with a:=A,n:=C,e:=D } N) :=
  hM.turn0 (M':={ M with a:=A,n:=C,e:=D }) ⟨⟨rfl,rfl,rfl,rfl,rfl⟩,rfl,rfl,rfl⟩ ((((ab.refl [b] _).setCell (Or.inl (by simp)) _).setCell (Or.inl (by simp)) _).setCell (Or.inl (by simp)) _) (by rw[ah (ah (ah hM.blk 5 _) 6 _) 7 _];rfl) ⟨hA,hC,hD⟩
 clear h hM hB;go_enter Tryz.func11,Tryz.ntmps11
 go_upto_region 1 with fail
 rw[HW.out];go_wp2;go_ret;exact⟨rfl,_,_,HF.out.more,aq _ _ (bA (by decide))⟩
set_option maxRecDepth 100000 in
theorem Je(b N:Nat)(I:Nat×Nat->It)(M:Mc)(A C D:Int)(s t:ByteArray)(w:World)(h:bM w b I M N) :
  Calls Tryz.prog 11 #[.pointer (some ⟨b,0,none⟩),.agg #[.int .i64 16,.int .i64 A,.int .i64 C,.int .i64 D,.string s,.string t]] w fun e w'=>go b I N true e w':=by
 obtain⟨W,HW⟩:∃W,Hid (w.alloc (.cells #[.int .i64 16,.int .i64 A,.int .i64 C,.int .i64 D,.string s,.string t] 28)=W):=⟨_,rfl⟩
 obtain⟨hM,hB,hbw,-⟩:=h.boxed 16 A C D s t W HW.out;obtain⟨o0,o1,o2,o3,o4,o5,oz⟩:=dZ hB;have fb:=ak hM.blk;have bz:=ae hM.blk;have hne:b≠w.heap.size:=by omega
 have hne2:w.heap.size≠b:=by omega
 have c8:W.cell? ⟨b,8,none⟩=some (.int .i64 M.u):=by rw[aa hM.blk];rfl
 have HF:Hid (bM (W.setCell ⟨b,8,none⟩ (.int .i64 A)) b _ { M with u:=A } N) :=
  hM.turn0 (M':={ M with u:=A }) ⟨⟨rfl,rfl,rfl,rfl,rfl⟩,rfl,rfl,rfl⟩ ((ab.refl [b] _).setCell (Or.inl (by simp)) _) (by rw[ah hM.blk 8 _];rfl) hM.rng
 clear h hM hB;go_enter Tryz.func11,Tryz.ntmps11
 go_upto_region 1 with fail
 rw[HW.out];go_wp2;go_ret;exact⟨rfl,_,_,HF.out.more,aq _ _ (bA (by decide))⟩
set_option maxRecDepth 100000 in
theorem Jf(b N:Nat)(I:Nat×Nat->It)(M:Mc)(A C D:Int)(s t:ByteArray)(w:World)(h:bM w b I M N) :
  Calls Tryz.prog 11 #[.pointer (some ⟨b,0,none⟩),.agg #[.int .i64 17,.int .i64 A,.int .i64 C,.int .i64 D,.string s,.string t]] w fun e w'=>go b I N true e w':=by
 obtain⟨W,HW⟩:∃W,Hid (w.alloc (.cells #[.int .i64 17,.int .i64 A,.int .i64 C,.int .i64 D,.string s,.string t] 28)=W):=⟨_,rfl⟩
 obtain⟨hM,hB,hbw,-⟩:=h.boxed 17 A C D s t W HW.out;obtain⟨o0,o1,o2,o3,o4,o5,oz⟩:=dZ hB;have fb:=ak hM.blk;have bz:=ae hM.blk;have hne:b≠w.heap.size:=by omega
 have hne2:w.heap.size≠b:=by omega
 have c15:W.cell? ⟨b,15,none⟩=some (.slice none 0 0):=by rw[aa hM.blk];rfl
 have HF:Hid (bM W b I M N):=hM;clear h hM hB;go_enter Tryz.func11,Tryz.ntmps11
 go_upto_region 1 with fail
 rw[HW.out];go_wp2;go_ret;exact⟨rfl,_,_,HF.out.more,rfl⟩
set_option maxRecDepth 100000 in
theorem Jg(b N:Nat)(I:Nat×Nat->It)(M:Mc)(A C D:Int)(s t:ByteArray)(w:World)(h:bM w b I M N) :
  Calls Tryz.prog 11 #[.pointer (some ⟨b,0,none⟩),.agg #[.int .i64 18,.int .i64 A,.int .i64 C,.int .i64 D,.string s,.string t]] w fun e w'=>go b I N true e w':=by
 obtain⟨W,HW⟩:∃W,Hid (w.alloc (.cells #[.int .i64 18,.int .i64 A,.int .i64 C,.int .i64 D,.string s,.string t] 28)=W):=⟨_,rfl⟩
 obtain⟨hM,hB,hbw,-⟩:=h.boxed 18 A C D s t W HW.out;obtain⟨o0,o1,o2,o3,o4,o5,oz⟩:=dZ hB;have fb:=ak hM.blk;have bz:=ae hM.blk;have hne:b≠w.heap.size:=by omega
 have hne2:w.heap.size≠b:=by omega
 have c16:W.cell? ⟨b,16,none⟩=some (.slice none 0 0):=by rw[aa hM.blk];rfl
 have HF:Hid (bM W b I M N):=hM;clear h hM hB;go_enter Tryz.func11,Tryz.ntmps11
 go_upto_region 1 with fail
 rw[HW.out];go_wp2;go_ret;exact⟨rfl,_,_,HF.out.more,rfl⟩
set_option maxRecDepth 100000 in
theorem mH(b N:Nat)(I:Nat×Nat->It)(M:Mc)(k A C D:Int)(s t:ByteArray)(w:World)(h:bM w b I M N)(hk:(8<=k/\k<=14)∨19<=k) :
  Calls Tryz.prog 11 #[.pointer (some ⟨b,0,none⟩),.agg #[.int .i64 k,.int .i64 A,.int .i64 C,.int .i64 D,.string s,.string t]] w fun e w'=>e=.returned (.bool false)/\ab [] w w':=by
 obtain⟨W,HW⟩:∃W,Hid (w.alloc (.cells #[.int .i64 k,.int .i64 A,.int .i64 C,.int .i64 D,.string s,.string t] 28)=W):=⟨_,rfl⟩
 obtain⟨hM,hB,hbw,hkW⟩:=h.boxed k A C D s t W HW.out;obtain⟨o0,-⟩:=dZ hB;have HK:Hid (ab [] w W):=hkW;have oz:=ae hB;have hn:∀m:Int,(k=m->False)->(k==m)=false:=fun m hm=>beq_eq_false_iff_ne.2 hm
 have n1:=hn 1 (by omega);have n2:=hn 2 (by omega);have n3:=hn 3 (by omega);have n4:=hn 4 (by omega);have n5:=hn 5 (by omega);have n6:=hn 6 (by omega);have n7:=hn 7 (by omega);have n15:=hn 15 (by omega);have n16:=hn 16 (by omega);have n17:=hn 17 (by omega);have n18:=hn 18 (by omega);clear h hM hB hn hk hkW;go_enter Tryz.func11,Tryz.ntmps11
 go_upto_region 1 with fail
 rw[HW.out];go_wp2;go_ret;exact⟨rfl,HK.out⟩
set_option maxRecDepth 100000 in
theorem Jd(b N:Nat)(I:Nat×Nat->It)(M:Mc)(A C D:Int)(s t:ByteArray)(w:World)(h:bM w b I M N) :
  Calls Tryz.prog 11 #[.pointer (some ⟨b,0,none⟩),.agg #[.int .i64 15,.int .i64 A,.int .i64 C,.int .i64 D,.string s,.string t]] w fun e w'=>go b I N true e w':=by
 obtain⟨W,HW⟩:∃W,Hid (w.alloc (.cells #[.int .i64 15,.int .i64 A,.int .i64 C,.int .i64 D,.string s,.string t] 28)=W):=⟨_,rfl⟩
 obtain⟨hM,hB,hbw,-⟩:=h.boxed 15 A C D s t W HW.out;obtain⟨o0,o1,o2,o3,o4,o5,oz⟩:=dZ hB;have fb:=ak hM.blk;have bz:=ae hM.blk;have hne:b≠w.heap.size:=by omega
 have hne2:w.heap.size≠b:=by omega
 have c8:W.cell? ⟨b,8,none⟩=some (.int .i64 M.u):=by rw[aa hM.blk];rfl
 have c9:W.cell? ⟨b,9,none⟩=some (.string M.s):=by rw[aa hM.blk];rfl
 have c10:W.cell? ⟨b,10,none⟩=some (.int .i64 M.p):=by rw[aa hM.blk];rfl
 have c11:W.cell? ⟨b,11,none⟩=some (.int .i64 M.q):=by rw[aa hM.blk];rfl
 have c12:W.cell? ⟨b,12,none⟩=some (.string M.f):=by rw[aa hM.blk];rfl
 have c13:W.cell? ⟨b,13,none⟩=some (.int .i64 M.i):=by rw[aa hM.blk];rfl
 have c14:W.cell? ⟨b,14,none⟩=some (.int .i64 M.j):=by rw[aa hM.blk];rfl
 have HF:Hid (bM (((((((W.setCell ⟨b,9,none⟩ (.string s)).setCell ⟨b,10,none⟩ (.int .i64 A)).setCell ⟨b,11,none⟩ (.int .i64 C)).setCell ⟨b,12,none⟩ (.string t)).setCell ⟨b,13,none⟩ (.int .i64 D)).setCell ⟨b,14,none⟩ (.int .i64 M.u)).drew) b _ { M with s:=s,p:=A,q:=C,f:=t,i:=D,j:=M.u } N) :=
  (hM.turn0 (M':={ M with s:=s,p:=A,q:=C,f:=t,i:=D,j:=M.u }) ⟨⟨rfl,rfl,rfl,rfl,rfl⟩,rfl,rfl,rfl⟩ ((((((((ab.refl [b] _).setCell (Or.inl (by simp)) _).setCell (Or.inl (by simp)) _).setCell (Or.inl (by simp)) _).setCell (Or.inl (by simp)) _).setCell (Or.inl (by simp)) _).setCell (Or.inl (by simp)) _)) (by rw[ah (ah (ah (ah (ah (ah hM.blk 9 _) 10 _) 11 _) 12 _) 13 _) 14 _];rfl) hM.rng).still (ab.refl [] _).drew
 clear h hM hB;go_enter Tryz.func11,Tryz.ntmps11
 go_upto_region 1 with fail
 rw[HW.out]
 go_upto_region 38 with fail
 go_region
 all_goals go_wp2
 all_goals go_ret
 all_goals exact⟨rfl,_,_,HF.out.more,aq _ _ (bA (by decide))⟩
theorem bM.clear{w w':World}{b N:Nat}{I:Nat×Nat->It}{M:Mc}(h:bM w b I M N)(k:ab [b] w w')(o:w'.heap[b]?=some (.cells ({ M with hr:=⟨none,0⟩,reg:=[] }:Mc).cells.toArray 42 (0,0))):∃I',bM w' b I' { M with hr:=⟨none,0⟩,reg:=[] } N/\I' (10,0)=I (10,0):=by
 have s1:=h.sep.turn h.w0 k o;have s2:=s1.put (3,0) (dd ⟨none,0⟩ (b8 [])) ((ab.refl _ w').mono (fun _ hx _=>hx)) (World.ownsRow_nil _ _ _ _) (fun q hq=>by cases hq);refine⟨ff (ff I (0,0) (pX b 42 ({ M with hr:=⟨none,0⟩,reg:=[] }:Mc).cells)) (3,0) (dd ⟨none,0⟩ (b8 [])),?_,?_⟩
 rotate_left
 ·rw[aq _ _ (bA (by decide)),aq _ _ (bA (by decide))]
 have q:∀a i,a≠0->a≠3->(ff (ff I (0,0) (pX b 42 ({ M with hr:=⟨none,0⟩,reg:=[] }:Mc).cells)) (3,0) (dd ⟨none,0⟩ (b8 []))) (a,i)=I (a,i):=fun a i h0 h3=>by rw[aq _ _ (bA h3),aq _ _ (bA h0)]
 exact {
  sep:=s2
  w0:=by rw[aq _ _ (bA (by decide))];exact bS _ _ _
  x:=by rw[q 1 0 (by decide) (by decide)];exact h.x
  m:=by rw[q 2 0 (by decide) (by decide)];exact h.m
  r:=bS _ _ _
  ls:=by rw[q 4 0 (by decide) (by decide)];exact h.ls
  lw:=by rw[q 5 0 (by decide) (by decide)];exact h.lw
  v:=fun i x m fs hi=>by rw[q 6 i (by decide) (by decide),q 7 i (by decide) (by decide)];exact h.v i x m fs hi
  l:=fun i x m fs hi=>by rw[q 8 i (by decide) (by decide),q 9 i (by decide) (by decide)];exact h.l i x m fs hi
  fit:=fun j=>⟨by show(0:Nat)<=_;omega,by show(0:Nat)<=_;omega⟩
  len:=⟨h.len.1,Nat.zero_le _,h.len.2.2⟩
  rng:=h.rng }
set_option maxRecDepth 100000 in
theorem KC(b N:Nat)(I:Nat×Nat->It)(M:Mc)(A C D:Int)(s t:ByteArray)(w:World)(h:bM w b I M N) :
  Calls Tryz.prog 11 #[.pointer (some ⟨b,0,none⟩),.agg #[.int .i64 3,.int .i64 A,.int .i64 C,.int .i64 D,.string s,.string t]] w fun e w'=>go b I N true e w':=by
 obtain⟨W,HW⟩:∃W,Hid (w.alloc (.cells #[.int .i64 3,.int .i64 A,.int .i64 C,.int .i64 D,.string s,.string t] 28)=W):=⟨_,rfl⟩
 obtain⟨hM,hB,hbw,-⟩:=h.boxed 3 A C D s t W HW.out;obtain⟨o0,o1,o2,o3,o4,o5,oz⟩:=dZ hB;have fb:=ak hM.blk;have bz:=ae hM.blk;have hne:b≠w.heap.size:=by omega
 have hne2:w.heap.size≠b:=by omega
 have c2:W.cell? ⟨b,2,none⟩=some (.slice M.hr.ao M.reg.length M.hr.cap):=by rw[aa hM.blk];rfl
 have HF:Hid (∃I',bM (W.setCell ⟨b,2,none⟩ (.slice none 0 0)) b I' { M with hr:=⟨none,0⟩,reg:=[] } N/\I' (10,0)=I (10,0)) :=
  hM.clear ((ab.refl [b] _).setCell (Or.inl (by simp)) _) (by rw[ah hM.blk 2 _];rfl)
 clear h hM hB;go_enter Tryz.func11,Tryz.ntmps11
 go_upto_region 1 with fail
 rw[HW.out];go_wp2;go_ret;obtain⟨I',hI,hI2⟩:=HF.out;exact⟨rfl,I',_,hI.more,hI2⟩
theorem dc{P:Program}(w:World){ops:Array Oper}{rest:List Oper}{o:Oper}{a:Act}{Q:Exit->Act->World->Prop}
  (hg:o.guard=none) (s x:Operand) (t:TypeId) (hop:o.op=Op.call { callee:=Callee.builtin Builtin.append,args:=#[s,x],argTypes:=#[t,t] })
  (i:TypeInfo) (z:Value) (bytes:Nat) (h:Hd) (r:dK) (news:List Value) (h1:P.underlying t=some (.slice r.e)) (h2:P.info? r.e=some i) (h3:i.zero=some z) (h4:i.size=r.size) (h5:i.bytes=bytes) (h6:z.cells.size=r.size) (h7:0<r.size)
  (hs:a.eval s=.slice h.ao r.n h.cap) (hown:aA w h r) (hL:r.n<=4294967296) (hb:bytes<=1000) (hx:a.eval x=.slice (some ⟨w.heap.size,0,none⟩) 1 1) (hn:news.length=r.size) (h1c:∀u∈news,u.oneCell'=true)
  (hK:∀h' w',aA w' h' ⟨r.e,r.size,r.n+1,r.xs++news⟩->bh w w' h h'->wpList P ops Q rest (a.put o.dst (.slice h'.ao (r.n+1) h'.cap)) w') :
  wpList P ops Q (o :: rest) a (w.alloc (.cells news.toArray r.e)):=by
 have k1:ab [] w (w.alloc (.cells news.toArray r.e)):=(ab.refl [] _).alloc _;have hk:(w.alloc (.cells news.toArray r.e)).heap[w.heap.size]?=some (.cells news.toArray r.e (0,0)):=heap_alloc_new _ _;obtain⟨hd',w',hrun,r1,r2⟩:=pJ (P:=P) (w.alloc (.cells news.toArray r.e)) t o.type i z bytes h r h1 h2 h3 h4 h5 h6 h7 (hown.still k1) (some ⟨w.heap.size,0,none⟩) 1 1 news (by omega) (fun e=>by cases e) (fun ad e j u hj=>by cases e;rw[bK,aa hk];simpa using hj) h1c (by unfold maxLen;omega) (Nat.le_trans (Nat.mul_le_mul (show r.n+1<=4294967297 by omega) hb) (by omega));refine wpList_plain hg fun K hK'=>?_
 unfold Oper.wp;simp[execOp,hop,resolve,invoke,builtin,hs,hx,hrun,Result.andThen];exact hK' _ _ (hK hd' w' r1 ((bh.still k1).trans r2))
theorem rs{P:Program}{ops:Array Oper}{o:Oper}{a:Act}(W:World){K:Act->World->Prop}{Q:Exit->Act->World->Prop}{E:Prop}
  (hg:o.guard=none) (s x:Operand) (t:TypeId) (hop:o.op=Op.call { callee:=Callee.builtin Builtin.append,args:=#[s,x],argTypes:=#[t,t] })
  (i:TypeInfo) (z:Value) (bytes:Nat) (h:Hd) (r:dK) (news:List Value) (h1:P.underlying t=some (.slice r.e)) (h2:P.info? r.e=some i) (h3:i.zero=some z) (h4:i.size=r.size) (h5:i.bytes=bytes) (h6:z.cells.size=r.size) (h7:0<r.size)
  (hs:a.eval s=.slice h.ao r.n h.cap) (hown:aA W h r) (hL:r.n<=4294967296) (hb:bytes<=1000) (hx:a.eval x=.slice (some ⟨W.heap.size,0,none⟩) 1 1) (hn:news.length=r.size) (h1c:∀u∈news,u.oneCell'=true)
  (hK:∀ao' cap' w',aA w' ⟨ao',cap'⟩ ⟨r.e,r.size,r.n+1,r.xs++news⟩->bh W w' h ⟨ao',cap'⟩->K (a.put o.dst (.slice ao' (r.n+1) cap')) w') :
  if Region.wanted o (yielded ops a.tmps)=true then Oper.wp P o a (W.alloc (.cells news.toArray r.e)).drew K Q else E:=by
 have k1:ab [] W (W.alloc (.cells news.toArray r.e)).drew:=((ab.refl [] _).alloc _).drew;have hk:(W.alloc (.cells news.toArray r.e)).drew.heap[W.heap.size]?=some (.cells news.toArray r.e (0,0)):=heap_alloc_new _ _;obtain⟨hd',w',hrun,r1,r2⟩:=pJ (P:=P) (W.alloc (.cells news.toArray r.e)).drew t o.type i z bytes h r h1 h2 h3 h4 h5 h6 h7 (hown.still k1) (some ⟨W.heap.size,0,none⟩) 1 1 news (by omega) (fun e=>by cases e) (fun ad e j u hj=>by cases e;rw[bK,aa hk];simpa using hj) h1c (by unfold maxLen;omega) (Nat.le_trans (Nat.mul_le_mul (show r.n+1<=4294967297 by omega) hb) (by omega));have hw:Region.wanted o (yielded ops a.tmps)=true:=by simp[Region.wanted,hg]
 rw[if_pos hw];unfold Oper.wp;simp[execOp,hop,resolve,invoke,builtin,hs,hx,hrun,Result.andThen];exact hK hd'.ao hd'.cap w' r1 ((bh.still k1).trans r2)
theorem ny.grown{w w5:World}{I:Nat×Nat->It}{b T:Nat}{c:List Value}{k:Nat×Nat}{hd h5:Hd}{r r':dK}(s:ny w I)(e0:I (0,0)=pX b T c)(hk:k≠(0,0))(e:I k=dd hd r)(g:bh w w5 hd h5)(o:aA w5 h5 r')(j:Nat)(v:Value) :
  ny (w5.setCell ⟨b,j,none⟩ v) (ff (ff I k (dd h5 r')) (0,0) (pX b T (c.set j v))):=by
 have s1:=s.grow e g o;have e1:ff I k (dd h5 r') (0,0)=pX b T c:=by rw[aq _ _ (Ne.symm hk)];exact e0
 refine s1.turn e1 ((ab.refl [b] _).setCell (Or.inl (by simp)) _) ?_;have h0:=s1.all (0,0);rw[e1]at h0;rw[ah (show w5.heap[b]?=some (.cells c.toArray T (0,0)) from h0) j v,List.setIfInBounds_toArray]
theorem EL(f:ByteArray×ByteArray):∀u∈JZ f,u.oneCell'=true:=by
 intro u hu;simp only[JZ,List.mem_cons,List.not_mem_nil,or_false]at hu
 rcases hu with rfl | rfl <;> rfl
theorem wX{fs:Fs}(h:ke fs){n d:ByteArray}(hn:n.size<=1073741824)(hd:d.size<=1073741824):ke (fs++[(n,d)]):=by
 intro j;have:=h j;unfold aC aj at *;rw[List.getD_eq_getElem?_getD]at *
 by_cases e:j<fs.length
 ·rw[List.getElem?_append_left e];exact this
 ·rw[List.getElem?_append_right (by omega)]
  cases e2:j-fs.length with
  | zero=>exact⟨hn,hd⟩
  | succ q=>exact⟨by show(0:Nat)<=_;omega,by show(0:Nat)<=_;omega⟩
theorem bM.addR{w w5:World}{b N:Nat}{I:Nat×Nat->It}{M:Mc}{h5:Hd}{n d:ByteArray}(h:bM w b I M N)(g:bh w w5 M.hr h5)(o:aA w5 h5 (b8 (M.reg++[(n,d)])))(hn:n.size<=1073741824)(hd:d.size<=1073741824):∃I' M',bM (w5.setCell ⟨b,2,none⟩ (.slice h5.ao (M.reg.length+1) h5.cap)) b I' M' (N+1)/\I' (10,0)=I (10,0):=by
 have s1:=h.sep.grown h.w0 (bA (by decide)) h.r g o 2 (.slice h5.ao (M.reg.length+1) h5.cap);refine⟨ff (ff I (3,0) (dd h5 (b8 (M.reg++[(n,d)])))) (0,0) (pX b 42 (M.cells.set 2 (.slice h5.ao (M.reg.length+1) h5.cap))),{ M with hr:=h5,reg:=M.reg++[(n,d)] },?_,?_⟩
 rotate_left
 ·rw[aq _ _ (bA (by decide)),aq _ _ (bA (by decide))]
 have q:∀a i,a≠0->a≠3->(ff (ff I (3,0) (dd h5 (b8 (M.reg++[(n,d)])))) (0,0) (pX b 42 (M.cells.set 2 (.slice h5.ao (M.reg.length+1) h5.cap)))) (a,i)=I (a,i):=fun a i h0 h3=>by rw[aq _ _ (bA h0),aq _ _ (bA h3)]
 have h':=h.more
 exact {
  sep:=s1
  w0:=by rw[bS];unfold Mc.cells;rw[List.length_append];rfl
  x:=by rw[q 1 0 (by decide) (by decide)];exact h.x
  m:=by rw[q 2 0 (by decide) (by decide)];exact h.m
  r:=by rw[aq _ _ (bA (by decide))];exact bS _ _ _
  ls:=by rw[q 4 0 (by decide) (by decide)];exact h.ls
  lw:=by rw[q 5 0 (by decide) (by decide)];exact h.lw
  v:=fun i x m fs hi=>by rw[q 6 i (by decide) (by decide),q 7 i (by decide) (by decide)];exact h.v i x m fs hi
  l:=fun i x m fs hi=>by rw[q 8 i (by decide) (by decide),q 9 i (by decide) (by decide)];exact h'.l i x m fs hi
  fit:=wX h.fit hn hd
  len:=⟨h'.len.1,by have:=h.len.2.1;show(M.reg++[(n,d)]).length<=_;rw[List.length_append];show _+1<=_;omega,h'.len.2.2⟩
  rng:=h.rng }
set_option maxRecDepth 100000 in
theorem Kz(b N:Nat)(I:Nat×Nat->It)(M:Mc)(A C D:Int)(s t:ByteArray)(w:World)(h:bM w b I M N)(hN:N<=1073741824)(hs:s.size<=1073741824)(ht:t.size<=1073741824) :
  Calls Tryz.prog 11 #[.pointer (some ⟨b,0,none⟩),.agg #[.int .i64 2,.int .i64 A,.int .i64 C,.int .i64 D,.string s,.string t]] w fun e w'=>go b I N true e w':=by
 obtain⟨W,HW⟩:∃W,Hid (w.alloc (.cells #[.int .i64 2,.int .i64 A,.int .i64 C,.int .i64 D,.string s,.string t] 28)=W):=⟨_,rfl⟩
 obtain⟨hM,hB,hbw,-⟩:=h.boxed 2 A C D s t W HW.out;obtain⟨o0,o1,o2,o3,o4,o5,oz⟩:=dZ hB;obtain⟨iF,hiF,hzF0,hzF1,hzF2⟩:=info_parts xc;have fb:=ak hM.blk;have bz:=ae hM.blk;have hne:b≠w.heap.size:=by omega
 have hne2:w.heap.size≠b:=by omega
 have c2:W.cell? ⟨b,2,none⟩=some (.slice M.hr.ao M.reg.length M.hr.cap):=by rw[aa hM.blk];rfl
 have HM:Hid (bM W b I M N):=hM;have hOw:=hM.ownR;have hPb:Hid ((b8 M.reg).n<=4294967296):=by show M.reg.length<=_;have:=h.len.2.1;omega
 have HPn:Hid ((b8 M.reg).n=M.reg.length):=rfl;have HFar:Hid (b∉M.hr.blk.toList):=fun hq=>hM.sep.far (0,0) (3,0) (bA (by decide)) b (by rw[hM.w0];exact List.mem_singleton.2 rfl) (by rw[hM.r];exact hq)
 clear h hM hB;go_enter Tryz.func11,Tryz.ntmps11
 go_upto_region 1 with fail
 rw[HW.out]
 go_upto_region 9 with fail
 go_region_law (refine rs W rfl (.tmp 51) (.tmp 57) 33 rfl iF (.agg #[.string ⟨#[]⟩,.string ⟨#[]⟩]) 32 M.hr (b8 M.reg) (JZ (s,t)) Tryz.underlying33 hiF hzF0 hzF1 hzF2 rfl Nat.two_pos (by rw[HPn.out];simp[Act.eval]) hOw hPb.out (by omega) (by simp[Act.eval]) rfl (EL (s,t)) ?_;intro ao5 cap5 w5 hw5 hg5;have p5:=hg5.kept.get HM.out.blk HFar.out;have f5:=ak p5 2;have c5:w5.cell? ⟨b,2,none⟩=some (.slice M.hr.ao M.reg.length M.hr.cap):=(by rw[aa p5];rfl);have z5:=ae p5)
 all_goals
  rw[ut]at hw5;have HF:=(show Hid _ from HM.out.addR hg5 hw5 hs ht);rw[HPn.out];go_wp2;go_ret;obtain⟨I',M',h1,h2⟩:=HF.out;exact⟨rfl,I',M',h1,h2⟩
theorem Kt:(Tryz.prog.info? 46).map (fun i=>(i.zero,i.size,i.bytes))=some (some (.pointer none),1,8):=by kernel_rfl
theorem Ks:(Tryz.prog.info? 47).map (fun i=>(i.zero,i.size,i.bytes))=some (some (.pointer none),1,8):=by kernel_rfl
theorem wb(t:Nat)(L:List Nat)(x:Nat):(⟨(j4 t L).e,(j4 t L).size,(j4 t L).n+1,(j4 t L).xs++[Jw x]⟩:dK)=j4 t (L++[x]):=by
 simp[j4]
theorem bM.addV{w w7:World}{b N X Y:Nat}{I J:Nat×Nat->It}{M:Mc}{h5 h7:Hd}(h:bM w b I M N)
  (hJ:J=ff (ff I (6,M.V.length) (Kv X [])) (7,M.V.length) (J8 Y ⟨none,0⟩ []))
  (s7:ny w7 (ff (ff (ff (ff J (1,0) (dd h5 (j4 46 (M.V.map (·.1)++[X])))) (0,0) (pX b 42 (M.cells.set 0 (.slice h5.ao (M.V.length+1) h5.cap)))) (2,0) (dd h7 (j4 47 (M.V.map (·.2.1)++[Y])))) (0,0) (pX b 42 ((M.cells.set 0 (.slice h5.ao (M.V.length+1) h5.cap)).set 1 (.slice h7.ao (M.V.length+1) h7.cap))))) :
  ∃I' M',bM w7 b I' M' (N+1)/\I' (10,0)=I (10,0):=by
 refine⟨_,{ M with hx:=h5,hm:=h7,V:=M.V++[(X,Y,[])] },⟨s7,?_,?_,?_,?_,?_,?_,?_,?_,?_,?_,?_⟩,?_⟩
 ·rw[bS];unfold Mc.cells;rw[List.length_append];rfl
 ·rw[aq _ _ (bA (by decide)),aq _ _ (bA (by decide)),aq _ _ (bA (by decide)),bS,List.map_append];rfl
 ·rw[aq _ _ (bA (by decide)),bS,List.map_append];rfl
 ·subst hJ;simp only[ff];exact h.r
 ·subst hJ;simp only[ff];exact h.ls
 ·subst hJ;simp only[ff];exact h.lw
 ·intro i x m fs hi
  rw[aq _ _ (bA (by decide)),aq _ _ (bA (by decide)),aq _ _ (bA (by decide)),aq _ _ (bA (by decide)),aq _ _ (bA (by decide)),aq _ _ (bA (by decide)),aq _ _ (bA (by decide)),aq _ _ (bA (by decide))];replace hi:(M.V++[(X,Y,[])])[i]?=some (x,m,fs):=hi;subst hJ
  by_cases e:i<M.V.length
  ·rw[List.getElem?_append_left e]at hi
   rw[aq _ _ (bA (by decide)),aq _ _ (tX (by omega)),aq _ _ (tX (by omega)),aq _ _ (bA (by decide))];exact h.v i x m fs hi
  ·have e2:i=M.V.length:=by
    have:=(List.getElem?_eq_some_iff.1 hi).1;rw[List.length_append]at this;have:i<M.V.length+1:=this;omega
   subst e2;rw[List.getElem?_append_right (Nat.le_refl _),Nat.sub_self]at hi
   cases hi
   rw[aq _ _ (bA (by decide)),bS,bS];exact⟨rfl,⟨_,rfl⟩,fun j hj=>by cases hj⟩
 ·intro i x m fs hi
  subst hJ;simp only[ff];exact h.more.l i x m fs hi
 ·exact h.fit
 ·refine⟨?_,h.more.len.2.1,h.more.len.2.2⟩
  have:=h.len.1
  show(M.V++[(X,Y,[])]).length<=_
  rw[List.length_append];show _+1<=_;omega
 ·exact h.rng
 ·subst hJ;simp only[ff];rfl
set_option maxRecDepth 100000 in
theorem Ky(b N:Nat)(I:Nat×Nat->It)(M:Mc)(A C D:Int)(s t:ByteArray)(w:World)(h:bM w b I M N)(hN:N<=1073741824) :
  Calls Tryz.prog 11 #[.pointer (some ⟨b,0,none⟩),.agg #[.int .i64 1,.int .i64 A,.int .i64 C,.int .i64 D,.string s,.string t]] w fun e w'=>go b I N true e w':=by
 obtain⟨W,HW⟩:∃W,Hid (w.alloc (.cells #[.int .i64 1,.int .i64 A,.int .i64 C,.int .i64 D,.string s,.string t] 28)=W):=⟨_,rfl⟩
 obtain⟨hM,hB,hbw,-⟩:=h.boxed 1 A C D s t W HW.out;obtain⟨o0,-⟩:=dZ hB;have oz:=ae hB;obtain⟨iX,hiX,hzX0,hzX1,hzX2⟩:=info_parts Kt;obtain⟨iM,hiM,hzM0,hzM1,hzM2⟩:=info_parts Ks;have HM:Hid (bM W b I M N):=hM;have hPx:Hid ((j4 46 (M.V.map (·.1))).n<=4294967296):=by show(M.V.map _).length<=_;rw[List.length_map];have:=h.len.1;omega
 have hPm:Hid ((j4 47 (M.V.map (·.2.1))).n<=4294967296):=by show(M.V.map _).length<=_;rw[List.length_map];have:=h.len.1;omega
 have HXn:Hid ((j4 46 (M.V.map (·.1))).n=M.V.length):=List.length_map _;have HMn:Hid ((j4 47 (M.V.map (·.2.1))).n=M.V.length):=List.length_map _;clear h hM hB;go_enter Tryz.func11,Tryz.ntmps11
 go_upto_region 1 with fail
 rw[HW.out]
 go_upto_region 5 with (go_at_call 27;refine Calls.mono (Jk W) ?_;rintro e w1 ⟨rfl,hX,k1⟩)
 have S1:=(show Hid _ from HM.out.sep.put (6,M.V.length) (Kv W.heap.size []) (k1.mono (by simp)) hX.anyR (fun q hq=>Or.inr (by rw[List.mem_singleton.1 hq];exact Nat.le_refl _)))
 go_upto_region 6 with (go_at_call 28;refine Calls.mono (Eg w1) ?_;rintro e w2 ⟨rfl,hY,k2⟩)
 have S2:=(show Hid _ from S1.out.put (7,M.V.length) (J8 w1.heap.size ⟨none,0⟩ []) (k2.mono (by simp)) ⟨_,_,_,_,hY⟩ (fun q hq=>Or.inr (by rcases List.mem_cons.1 hq with e | e;exact Nat.le_of_eq e.symm;cases e)));have HM2:=(show Hid _ from(HM.out.still k1).still k2);clear hX hY k1 k2;have c0:w2.cell? ⟨b,0,none⟩=some (.slice M.hx.ao M.V.length M.hx.cap):=by rw[aa HM2.out.blk];rfl
 have fb:=ak HM2.out.blk;have bz:=ae HM2.out.blk;have hOw:=HM2.out.ownX;have HFar:Hid (b∉M.hx.blk.toList):=fun hq=>HM2.out.sep.far (0,0) (1,0) (bA (by decide)) b (by rw[HM2.out.w0];exact List.mem_singleton.2 rfl) (by rw[HM2.out.x];exact hq)
 obtain⟨J,HJ⟩:∃J,Hid (J=ff (ff I (6,M.V.length) (Kv W.heap.size [])) (7,M.V.length) (J8 w1.heap.size ⟨none,0⟩ [])):=⟨_,rfl⟩
 rw[<-HJ.out]at S2;have hJ0:Hid (J (0,0)=pX b 42 M.cells):=by show _=_;rw[HJ.out,aq _ _ (bA (by decide)),aq _ _ (bA (by decide))];exact HM.out.w0
 have hJ1:Hid (J (1,0)=dd M.hx (j4 46 (M.V.map (·.1)))):=by show _=_;rw[HJ.out,aq _ _ (bA (by decide)),aq _ _ (bA (by decide))];exact HM.out.x
 have hJ2:Hid (J (2,0)=dd M.hm (j4 47 (M.V.map (·.2.1)))):=by show _=_;rw[HJ.out,aq _ _ (bA (by decide)),aq _ _ (bA (by decide))];exact HM.out.m
 obtain⟨X,HXe⟩:∃X,Hid (W.heap.size=X):=⟨_,rfl⟩
 obtain⟨Y,HYe⟩:∃Y,Hid (w1.heap.size=Y):=⟨_,rfl⟩
 rw[HXe.out,HYe.out]at HJ;rw[HXe.out,HYe.out]
 go_upto_region 7 with (at_builtin;refine dc w2 rfl (.tmp 29) (.tmp 31) 31 rfl iX (.pointer none) 8 M.hx (j4 46 (M.V.map (·.1))) [Jw X] Tryz.underlying31 hiX hzX0 hzX1 hzX2 rfl Nat.one_pos (by rw[HXn.out];simp[Act.eval]) hOw hPx.out (by omega) (by simp[Act.eval]) rfl (by simp[Jw,Value.oneCell']) ?_;intro h5 w5 hw5 hg5;rw[wb]at hw5;have p5:=hg5.kept.get HM2.out.blk HFar.out;have f5:=ak p5;have c5:w5.cell? ⟨b,0,none⟩=some (.slice M.hx.ao M.V.length M.hx.cap):=(by rw[aa p5];rfl);have z5:=ae p5)
 rw[HXn.out];have S5:=(show Hid _ from S2.out.grown hJ0.out (bA (by decide)) hJ1.out hg5 hw5 0 (.slice h5.ao (M.V.length+1) h5.cap));obtain⟨w6,Hw6⟩:∃w6,Hid (w5.setCell ⟨b,0,none⟩ (.slice h5.ao (M.V.length+1) h5.cap)=w6):=⟨_,rfl⟩
 rw[Hw6.out]at S5 ⊢;have e60:=(show Hid _ from bS (ff J (1,0) (dd h5 (j4 46 (M.V.map (·.1)++[X])))) (0,0) (pX b 42 (M.cells.set 0 (.slice h5.ao (M.V.length+1) h5.cap))));obtain⟨J6,HJ6⟩:∃J6,Hid (ff (ff J (1,0) (dd h5 (j4 46 (M.V.map (·.1)++[X])))) (0,0) (pX b 42 (M.cells.set 0 (.slice h5.ao (M.V.length+1) h5.cap)))=J6):=⟨_,rfl⟩
 have e62:Hid (J6 (2,0)=dd M.hm (j4 47 (M.V.map (·.2.1)))):=by show _=_;rw[<-HJ6.out,aq _ _ (bA (by decide)),aq _ _ (bA (by decide))];exact hJ2.out
 rw[HJ6.out]at S5 e60
 have b6:w6.heap[b]?=some (.cells (M.cells.set 0 (.slice h5.ao (M.V.length+1) h5.cap)).toArray 42 (0,0)):=by
  have:=S5.out.all (0,0);rw[e60.out]at this;exact this
 have HB6:=(show Hid _ from b6)
 have hOw6:aA w6 M.hm (j4 47 (M.V.map (·.2.1))):=by
  have:=S5.out.all (2,0);rw[e62.out]at this;exact this
 have HFar6:Hid (b∉M.hm.blk.toList):=fun hq=>S5.out.far (0,0) (2,0) (bA (by decide)) b (by rw[e60.out];exact List.mem_singleton.2 rfl) (by rw[e62.out];exact hq)
 clear p5 f5 c5 z5 hw5 hg5 c0 fb bz hOw;have c1:w6.cell? ⟨b,1,none⟩=some (.slice M.hm.ao M.V.length M.hm.cap):=by rw[aa b6];rfl
 have fb:=ak b6;have bz:=ae b6;clear b6;go_wp2_with (at_builtin;refine dc w6 rfl (.tmp 39) (.tmp 41) 32 rfl iM (.pointer none) 8 M.hm (j4 47 (M.V.map (·.2.1))) [Jw Y] Tryz.underlying32 hiM hzM0 hzM1 hzM2 rfl Nat.one_pos (by rw[HMn.out];simp[Act.eval]) hOw6 hPm.out (by omega) (by simp[Act.eval]) rfl (by simp[Jw,Value.oneCell']) ?_;intro h7 w7 hw7 hg7;rw[wb]at hw7;have p7:=hg7.kept.get HB6.out HFar6.out;have f7:=ak p7;have c7:w7.cell? ⟨b,1,none⟩=some (.slice M.hm.ao M.V.length M.hm.cap):=(by rw[aa p7];rfl);have z7:=ae p7;rw[HMn.out]);go_ret;have S7:=S5.out.grown e60.out (bA (by decide)) e62.out hg7 hw7 1 (.slice h7.ao (M.V.length+1) h7.cap);rw[<-HJ6.out]at S7;exact⟨rfl,HM.out.addV HJ.out S7⟩
end Go.Proofs.YtpddjjabfbfifaaGreat

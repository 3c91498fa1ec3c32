import Derived.Test.YtpddjjabfbfifaaGreatRows
import Derived.Deep.Slices
import Derived.ProofKit
import Derived.OpenShut
import Derived.ShutString
import Derived.ChangeOld
import Derived.Below
import Derived.SizedLaws
import Derived.Test.YtpddjjabfbfifaaGreatG43
namespace Go.Proofs.YtpddjjabfbfifaaGreat
open Go.RowKit
set_option maxHeartbeats 40000000
def qm(L:List qz):dK:=kq 28 6 Jo L
def Lq(w0:World)(h:Hd)(L:List qz):It where
 B:=List.range w0.heap.size++h.blk.toList
 P w:=ab [] w0 w/\aA w h (qm L)
 lt w a q hq:=by
  rcases List.mem_append.1 hq with e | e
  ·exact Nat.lt_of_lt_of_le (List.mem_range.1 e) a.1.size
  ·exact a.2.lt (aK e)
 ok S w w' a k hb:=by
  refine⟨⟨k.os.trans a.1.os,k.tape.trans a.1.tape,k.output.trans a.1.output,Nat.le_trans a.1.size k.size,fun q hq _=>?_⟩,a.2.moved (fun q hq=>k.block q (a.2.lt hq) (hb q (List.mem_append_right _ (by rw[hq];simp))))⟩;rw[k.block q (Nat.lt_of_lt_of_le hq a.1.size) (hb q (List.mem_append_left _ (List.mem_range.2 hq)))];exact a.1.block q hq (by simp)
def LO:It where
 B:=[]
 P _:=True
 lt _ _ q hq:=by cases hq
 ok _ _ _ _ _ _:=trivial
def La:Mc:=⟨⟨none,0⟩,⟨none,0⟩,⟨none,0⟩,⟨none,0⟩,⟨none,0⟩,[],[],[],0,0,0,0,⟨#[]⟩,0,0,⟨#[]⟩,0,0⟩
theorem GC{w0 w w':World}{h:Hd}{L:List qz}(k0:ab [] w0 w)(ho:aA w h (qm L))(k:ab [] w w')(hb:w'.heap[w.heap.size]?=some (.cells La.cells.toArray 42 (0,0))):∃I,bM w' w.heap.size I La 0/\I (10,0)=Lq w0 h L:=by
 have s0:ny w (ff (fun _=>LO) (10,0) (Lq w0 h L)):=by
  refine⟨fun q=>?_,fun q q' hq b h1 h2=>?_⟩
  ·by_cases e:q=(10,0)
   ·subst e;rw[bS];exact⟨k0,ho⟩
   ·rw[aq _ _ e];exact trivial
  ·by_cases e:q=(10,0)
   ·subst e;rw[aq _ _ (Ne.symm hq)]at h2;cases h2
   ·rw[aq _ _ e]at h1;cases h1
 have s1:=s0.put (0,0) (pX w.heap.size 42 La.cells) (k.mono (by simp)) hb (fun q hq=>Or.inr (by rw[List.mem_singleton.1 hq];exact Nat.le_refl _));have s2:=s1.put (1,0) (dd ⟨none,0⟩ (j4 46 [])) (ab.refl _ _) (World.ownsRow_nil _ _ _ _) (fun q hq=>by cases hq);have s3:=s2.put (2,0) (dd ⟨none,0⟩ (j4 47 [])) (ab.refl _ _) (World.ownsRow_nil _ _ _ _) (fun q hq=>by cases hq);have s4:=s3.put (3,0) (dd ⟨none,0⟩ (b8 [])) (ab.refl _ _) (World.ownsRow_nil _ _ _ _) (fun q hq=>by cases hq);have s5:=s4.put (4,0) (dd ⟨none,0⟩ (fQ [])) (ab.refl _ _) (World.ownsRow_nil _ _ _ _) (fun q hq=>by cases hq);have s6:=s5.put (5,0) (dd ⟨none,0⟩ (fQ [])) (ab.refl _ _) (World.ownsRow_nil _ _ _ _) (fun q hq=>by cases hq);refine⟨_,⟨s6,?_,?_,?_,?_,?_,?_,(fun i x m fs hi=>by cases hi),(fun i x m fs hi=>by cases hi),(fun j=>⟨by show(0:Nat)<=_;omega,by show(0:Nat)<=_;omega⟩),⟨Nat.le_refl _,Nat.le_refl _,Nat.le_refl _⟩,⟨⟨by decide,by decide⟩,⟨by decide,by decide⟩,by decide,by decide⟩⟩,?_⟩
 all_goals (simp only[ff];rfl)
theorem yi(w:World):(Instr.build 42 #[]).run Tryz.prog w=.ok (.agg La.cells.toArray) w :=
 run_build w 42 _ _ (by kernel_rfl)
set_option maxRecDepth 100000 in
theorem Io(w0:World)(h:Hd)(L:List qz)(w:World)(k0:ab [] w0 w)(ho:aA w h (qm L))(hL:L.length<=1073741824)(hok:∀i,i<L.length->ID (lo L i)) :
  Calls Tryz.prog 8 #[.slice h.ao L.length h.cap] w fun e w'=>e=.returned (.int .i64 (-1))/\ab [] w0 w':=by
 obtain⟨hao,hcap⟩:=h;obtain⟨W,HW⟩:∃W,Hid (w.alloc (.cells La.cells.toArray 42)=W):=⟨_,rfl⟩
 obtain⟨I0,hM0,hI0⟩:=GC k0 ho (show ab [] w W by rw[<-HW.out];exact(ab.refl [] _).alloc _) (by rw[<-HW.out];exact heap_alloc_new _ _);have HM0:Hid (∃I M,bM W w.heap.size I M 0/\I (10,0)=Lq w0 ⟨hao,hcap⟩ L):=⟨_,_,hM0,hI0⟩;have HOK:=(show Hid _ from hok);have bw:=yi;have HC:Hid (La.cells.toArray=#[.slice none 0 0,.slice none 0 0,.slice none 0 0,.slice none 0 0,.slice none 0 0,.int .i64 0,.int .i64 0,.int .i64 0,.int .i64 0,.string ⟨#[]⟩,.int .i64 0,.int .i64 0,.string ⟨#[]⟩,.int .i64 0,.int .i64 0,.slice none 0 0,.slice none 0 0]):=rfl;rw[HC.out]at HW;simp only[HC.out]at bw;clear hM0 hI0 hok ho k0;go_enter Tryz.func8,Tryz.ntmps8
 go_upto_region 2 with fail
 rw[HW.out];go_wp2
 go_loopg [4] L.length (fun g i wr=>∃k:Nat,k<=L.length/\g=L.length-k/\i=.int .i64 k/\Hid (∃I M,bM wr w.heap.size I M k/\I (10,0)=Lq w0 ⟨hao,hcap⟩ L))
 case atStart=>exact⟨0,by omega,rfl,rfl,HM0⟩
 case round =>
  obtain⟨k,hk,hg,rfl,HM⟩:=hrel;obtain⟨I,M,hM,hI⟩:=HM.out;have HMm:Hid (bM wr w.heap.size I M k):=hM;have HI:=(show Hid _ from hI);have hp:=hM.sep.all (10,0);rw[hI]at hp
  by_cases hlt:k<L.length
  ·have hki:(k:Int)<(L.length:Int):=by omega
   obtain⟨g0,eg,hg0,hc⟩:=(aA.srcG (f:=Jo) hp.2 (fun _=>rfl)) k _ (l9 L k hlt);have c0:=hc 0 _ rfl;have c1:=hc 1 _ rfl;have c2:=hc 2 _ rfl;have c3:=hc 3 _ rfl;have c4:=hc 4 _ rfl;have c5:=hc 5 _ rfl;have HST:=(show Hid _ from E2 w.heap.size k I M (lo L k) wr hM (by omega) (HOK.out k hlt));generalize lo L k=o at *;rw[Nat.add_zero]at c0;replace eg:hao=some ⟨g0,0,none⟩:=eg;subst eg;clear hM hI hp hc HM
   go_upto_region 6 with (go_at_call 9;refine Calls.mono HST.out ?_;rintro e w1 ⟨rfl,I1,M1,hM1,hI1⟩)
   have HL:=(show Hid _ from DV w.heap.size (k+1) I1 M1 w1 hM1 (by omega));have HM1:Hid (∃I M,bM w1 w.heap.size I M (k+1)/\I (10,0)=Lq w0 ⟨some ⟨g0,0,none⟩,hcap⟩ L):=⟨I1,M1,hM1,hI1.trans HI.out⟩;clear hM1 hI1;go_wp2_with (go_at_call 10;refine Calls.mono HL.out ?_;rintro e w2 ⟨rfl,k2⟩)
   go_roundg (L.length-(k+1))
   case measure=>omega
   case rel =>
    obtain⟨I2,M2,h2,hI2⟩:=HM1.out;exact⟨k+1,by omega,rfl,by go_num,I2,M2,h2.still k2,hI2⟩
  ·have hnn:¬(k:Int)<(L.length:Int):=by omega
   have HK:=(show Hid _ from hp.1);clear hM hI hp HM;go_wp2;go_ret;exact⟨rfl,HK.out⟩
theorem Kq:(Tryz.prog.info? 28).map (fun i=>(i.zero,i.size,i.bytes))=some (some (.agg #[.int .i64 0,.int .i64 0,.int .i64 0,.int .i64 0,.string ⟨#[]⟩,.string ⟨#[]⟩]),6,64):=by kernel_rfl
theorem Jp(o:qz):∀u∈Jo o,u.oneCell'=true:=by
 intro u hu;simp only[Jo,List.mem_cons,List.not_mem_nil,or_false]at hu
 rcases hu with rfl | rfl | rfl | rfl | rfl | rfl <;> rfl
theorem El{L:List qz}{o:qz}{p:qz->Prop}(h:∀i,i<L.length->p (lo L i))(ho:p o):∀i,i<(L++[o]).length->p (lo (L++[o]) i):=by
 intro i hi;rw[List.length_append]at hi;replace hi:i<L.length+1:=hi;unfold lo;rw[List.getD_eq_getElem?_getD]
 by_cases e:i<L.length
 ·have:=h i e
  unfold lo at this;rw[List.getD_eq_getElem?_getD]at this;rw[List.getElem?_append_left e];exact this
 ·rw[List.getElem?_append_right (by omega),show i-L.length=0 by omega];exact ho
set_option maxRecDepth 100000 in
theorem Es(ao:Option Addr)(cap:Nat)(l:List qz)(w:World)(hl:l.length<=140737488351232)(hi:nt w ao l)(ho:∀o∈l,Dd o) :
  Calls Tryz.prog 5 #[.slice ao l.length cap,.slice none 0 0] w fun e w'=>e=.returned (.bool true)/\ab [] w w':=by
 have HSM:=(show Hid _ from BA ao cap l w hl hi ho);have HI:Hid (nt w ao l):=hi;have HO:=(show Hid _ from ho);obtain⟨iX,hiX,hzX0,hzX1,hzX2⟩:=info_parts Kq;clear hi ho;go_enter Tryz.func5,Tryz.ntmps5
 go_upto_region 2 with (go_at_call 7;refine Calls.mono HSM.out ?_;rintro e w1 ⟨⟨r,rfl,hr⟩,k1⟩)
 have HK1:=(show Hid _ from k1);have HR:=(show Hid _ from hr);clear k1 hr
 cases r
 ·go_wp2
  go_ret;exact⟨rfl,HK1.out⟩
 ·obtain⟨hl1,hl2⟩:=HR.out rfl
  have HSZ:=(show Hid _ from hl2);have HN0:Hid (ir w w1 ⟨none,0⟩ (qm [])):=⟨World.ownsRow_nil _ _ _ _,(by intro k hk;cases hk),HK1.out⟩;clear hl2 HR;go_wp2
  go_loopg [6,7] l.length (fun g lv iv wr=>∃(k:Nat) (h':Hd) (L:List qz),k<=l.length/\g=l.length-k/\lv=.slice h'.ao L.length h'.cap/\iv=.int .i64 k/\L.length<=k/\Hid (∀i,i<L.length->ID (lo L i))/\Hid (ir w wr h' (qm L)))
  case atStart=>exact⟨0,⟨none,0⟩,[],by omega,rfl,rfl,rfl,by simp,(fun i h=>by cases h),HN0⟩
  case round =>
   obtain⟨k,h',L,hk,hg,rfl,rfl,hLk,HOK,HN⟩:=hrel
   by_cases hlt:k<l.length
   ·have hki:(k:Int)<(l.length:Int):=by omega
    obtain⟨b,off,rfl,hb,hc⟩:=(nt.still HI.out HN.out.kept) k _ (l9 l k hlt);have hin:=HO.out (lo l k) (List.mem_of_getElem? (l9 l k hlt));have c0:=hc 0 _ rfl;have c1:=hc 1 _ rfl;have c2:=hc 2 _ rfl;have c3:=hc 3 _ rfl;have c4:=hc 4 _ rfl;have c5:=hc 5 _ rfl;rw[Nat.add_zero]at c0;have hsz:=HSZ.out k hlt;have HIN:=(show Hid _ from hin);have HSK:=(show Hid _ from hsz);generalize lo l k=o at *;clear hc hin hsz;have hcase:(o.k<1∨(10<o.k/\o.k<15)∨18<o.k)∨((1<=o.k/\o.k<=10)∨(15<=o.k/\o.k<=18)):=by omega
    rcases hcase with hcase | hcase
    ·rcases hcase with h1 | ⟨h1,h2⟩ | h1
     all_goals
      go_wp2
      go_loopg [9,10] 0 (fun g a j w2=>g=0/\a=.bool false/\j=.int .i64 0/\wr=w2)
      case atStart=>exact⟨rfl,by first | rfl | (simp;omega),rfl,rfl⟩
      case round =>
       obtain⟨hg2,rfl,rfl,rfl⟩:=hrel;go_wp2
       go_roundg (l.length-(k+1))
       case measure=>omega
       case rel=>exact⟨k+1,h',L,by omega,rfl,rfl,by go_num,by omega,HOK,HN⟩
    ·have HOO:Hid (ID o):=⟨HIN.out.a,HIN.out.c,HIN.out.d,HSK.out.1,HSK.out.2,hcase⟩
     have hOw:=HN.out.own;have hPb:Hid ((qm L).n<=4294967296):=by show L.length<=_;omega
     have HPn:Hid ((qm L).n=L.length):=rfl
     rcases hcase with ⟨h1,h2⟩ | ⟨h1,h2⟩
     all_goals
      go_wp2
      go_loopg [9,10] 0 (fun g a j w2=>g=0/\a=.bool true/\j=.int .i64 0/\wr=w2)
      case atStart=>exact⟨rfl,rfl,rfl,rfl⟩
      case round =>
       obtain⟨hg2,rfl,rfl,rfl⟩:=hrel;go_wp2_with (at_builtin;refine dc wr rfl (.tmp 57) (.tmp 62) 22 rfl iX (.agg #[.int .i64 0,.int .i64 0,.int .i64 0,.int .i64 0,.string ⟨#[]⟩,.string ⟨#[]⟩]) 64 h' (qm L) (Jo o) Tryz.underlying22 hiX hzX0 hzX1 hzX2 rfl (show 0<6 by omega) (by rw[HPn.out];simp[Act.eval]) hOw hPb.out (by omega) (by simp[Act.eval]) rfl (Jp o) ?_;intro h5 w5 hw5 hg5;rw[qm,jY]at hw5;have HN5:=(show Hid _ from HN.out.grew hg5 hw5);clear hw5 hg5)
       go_roundg (l.length-(k+1))
       case measure=>omega
       case rel=>exact⟨k+1,h5,L++[o],by omega,rfl,by rw[HPn.out,List.length_append];rfl,by go_num,by rw[List.length_append];show _+1<=_;omega,El HOK.out HOO.out,HN5⟩
   ·have hnn:¬(k:Int)<(l.length:Int):=by omega
    have HUP:=(show Hid _ from Io w h' L wr HN.out.kept HN.out.own (by omega) HOK.out);go_wp2_with (go_at_call 8;refine Calls.mono HUP.out ?_;rintro e w5 ⟨rfl,k5⟩);go_ret;exact⟨rfl,k5⟩
theorem AA(ao:Option Addr)(cap:Nat)(l:List qz)(w:World)(hl:l.length<=140737488351232)(hi:nt w ao l)(ho:∀o∈l,Dd o) :
  Calls Tryz.prog 3 #[.slice ao l.length cap] w fun e w'=>e=.returned (.bool true)/\ab [] w w':=by
 have HP:=(show Hid _ from Es ao cap l w hl hi ho);clear hi ho;go_enter Tryz.func3,Tryz.ntmps3;go_wp2_with (go_at_call 5;refine Calls.mono HP.out ?_;rintro e w1 ⟨rfl,k1⟩);go_ret;exact⟨rfl,k1⟩
section
open Go.ChangeShapes Go.WideShapes Go.ChangeAt Go.RowKit
theorem own:ownKnob Tryz.prog.godebug=none:=by kernel_rfl
theorem Jc:laidOutB Tryz.prog=true:=by kernel_rfl
theorem Kj:Tryz.prog.bytesOf 28=64:=by kernel_rfl
theorem FY:Tryz.prog.cellsOf 28=6:=by kernel_rfl
theorem wR:Tryz.prog.cellsOf 3=1:=by kernel_rfl
theorem FZ:Tryz.prog.cellsOf 9=1:=by kernel_rfl
theorem uO:Tryz.prog.underlying 28=some (.struct (Tryz.prog.fieldsOf 28)):=by kernel_rfl
theorem IQ:(Tryz.prog.fieldsOf 28).toList.map (fun f=>(f.type,f.offset))=[(3,0),(3,1),(3,2),(3,3),(9,4),(9,5)]:=by kernel_rfl
theorem qO(i t o:Nat)(h:[(3,0),(3,1),(3,2),(3,3),(9,4),(9,5)][i]?=some (t,o)):∃f,(Tryz.prog.fieldsOf 28)[i]?=some f/\f.type=t/\f.offset=o:=by
 rw[<-IQ,List.getElem?_map,Array.getElem?_toList]at h
 cases e:(Tryz.prog.fieldsOf 28)[i]? with
 | none=>rw[e]at h;cases h
 | some f=>rw[e]at h;simp at h;exact⟨f,rfl,h.1,h.2⟩
theorem Lv:(Tryz.prog.fieldsOf 28).size=6:=by kernel_rfl
theorem Cc{H:Type}(P:Program)(e:TypeId){L:List (DataW H)}{d:DataW H}(hd:d∈L){n:Nat}(hn:n∈DataW.weights P e d):n∈DataW.weightsAll P e L:=by
 induction L with
 | nil=>cases hd
 | cons a r ih =>
  rw[DataW.weightsAll,List.mem_append]
  rcases List.mem_cons.1 hd with rfl | h
  ·exact Or.inl hn
  ·exact Or.inr (ih h)
theorem Cr(b off i:Nat):(⟨b,off,none⟩:Addr).add i=⟨b,off+i,none⟩:=by
 simp only[Addr.add]
 split
 ·next h=>subst h;rfl
 ·rfl
set_option maxRecDepth 100000 in
theorem Jq{H:Type}{enc:TypeId×Value->H}{W:World}{n:Nat}{cs:List Value}{x:DataW H×List MemPlace}(h:DataW.trod enc Tryz.prog W 0 (fun _=>true) true n 28 cs=some x) :
  ∃o:qz,cs=Jo o/\(qC o.k/\qC o.a/\qC o.c/\qC o.d)/\o.s.data.toList.length∈DataW.weights Tryz.prog 28 x.1/\o.t.data.toList.length∈DataW.weights Tryz.prog 28 x.1:=by
 obtain⟨xs,m,-,rfl,hcl,hxl,hf⟩:=DataW.trod_struct uO h;rw[FY]at hcl;rw[Lv]at hxl
 match cs,hcl,xs,hxl with
 | [v0,v1,v2,v3,v4,v5],_,[y0,y1,y2,y3,y4,y5],_ =>
  obtain⟨f0,e0,t0,q0⟩:=qO 0 _ _ rfl;obtain⟨f1,e1,t1,q1⟩:=qO 1 _ _ rfl;obtain⟨f2,e2,t2,q2⟩:=qO 2 _ _ rfl;obtain⟨f3,e3,t3,q3⟩:=qO 3 _ _ rfl;obtain⟨f4,e4,t4,q4⟩:=qO 4 _ _ rfl;obtain⟨f5,e5,t5,q5⟩:=qO 5 _ _ rfl;have g0:=hf 0 f0 e0;have g1:=hf 1 f1 e1;have g2:=hf 2 f2 e2;have g3:=hf 3 f3 e3;have g4:=hf 4 f4 e4;have g5:=hf 5 f5 e5;rw[t0,q0,wR]at g0;rw[t1,q1,wR]at g1;rw[t2,q2,wR]at g2;rw[t3,q3,wR]at g3;rw[t4,q4,FZ]at g4;rw[t5,q5,FZ]at g5;obtain⟨n0,c0,d0,w0⟩:=DataW.trod_int Tryz.underlying3 g0;obtain⟨n1,c1,d1,w1⟩:=DataW.trod_int Tryz.underlying3 g1;obtain⟨n2,c2,d2,w2⟩:=DataW.trod_int Tryz.underlying3 g2;obtain⟨n3,c3,d3,w3⟩:=DataW.trod_int Tryz.underlying3 g3;obtain⟨s4,c4,d4,-⟩:=DataW.trod_string Tryz.underlying9 g4;obtain⟨s5,c5,d5,-⟩:=DataW.trod_string Tryz.underlying9 g5;simp at c0 c1 c2 c3 c4 c5 d0 d1 d2 d3 d4 d5;refine⟨⟨n0,n1,n2,n3,s4,s5⟩,?_,⟨bounds_i64 w0,bounds_i64 w1,bounds_i64 w2,bounds_i64 w3⟩,?_,?_⟩
  ·rw[c0,c1,c2,c3,c4,c5];rfl
  ·rw[d0,d1,d2,d3,d4,d5]
   simp[DataW.weights,DataW.weightsEach]
  ·rw[d0,d1,d2,d3,d4,d5]
   simp[DataW.weights,DataW.weightsEach]
set_option maxRecDepth 100000 in
theorem KM{H:Type}{enc:TypeId×Value->H}{W:World}{a0:Option Addr}{len0 cap0:Nat}{d0:DataW H}{p0:List MemPlace}{TS:List TypeId}{DS:List (DataW H)}
  (h0:DataW.Trod enc Tryz.prog W 0 (fun _=>true) true 22 (.slice a0 len0 cap0) d0 p0)
  (hsz:(DataW.weightsEach Tryz.prog TS DS).all (·<=reachBytes)=true) (hT:TS[0]?=some 22) (hD:DS[0]?=some d0) :
  ∃l:List qz,l.length=len0/\len0<=140737488351232/\(∀o∈l,Dd o)/\nt W a0 l:=by
 obtain⟨fuel,hf⟩:=h0
 rcases Go.Deep.open_slice Tryz.underlying22 hf with ⟨hcs,_⟩ | ⟨a,len,cap,m,n,D,Pl,hcs,-,hlc,hcm,hm,hx,hall⟩
 ·simp[Value.cells]at hcs
  obtain⟨rfl,rfl,rfl⟩:=hcs;exact⟨[],rfl,by omega,(fun o ho=>by cases ho),fun i o hi=>by cases hi⟩
 ·simp[Value.cells]at hcs
  obtain⟨rfl,rfl,rfl⟩:=hcs;simp only[if_true]at hm;have hlm:len0<=m:=by omega
  simp only[Prod.mk.injEq]at hx;obtain⟨rfl,-⟩:=hx;have hw1:=sized_slice hsz (j:=0) hT hD Tryz.underlying22;rw[Kj]at hw1;simp only[List.length_map,List.length_range,reachBytes]at hw1
  have each:∀i,i<len0->∃o:qz,Dd o/\∀(j:Nat) u,(Jo o)[j]?=some u->W.cell? ((a.add (i*6)).add j)=some u:=fun i hi=>by
   obtain⟨cs,h1,h2⟩:=hall i (by omega);rw[FY]at h1;obtain⟨-,hl,hc⟩:=World.cells?_some h1;obtain⟨o,ho,⟨r0,r1,r2,r3⟩,g4,g5⟩:=Jq h2
   have big:∀q,q∈DataW.weights Tryz.prog 28 (D i)->q<=140737488351232:=fun q hq=>by
    have hm1:q∈DataW.weights Tryz.prog 22 (.slice ((List.range len0).map D) ((List.range (m-len0)).map fun j=>D (len0+j)):DataW H):=by
     simp only[DataW.weights,Tryz.underlying22];exact List.mem_cons_of_mem _ (List.mem_append_left _ (Cc Tryz.prog _ (List.mem_map.2 ⟨i,List.mem_range.2 hi,rfl⟩) hq))
    have:=List.all_eq_true.1 hsz _ (DataW.weights_mem_each (j:=0) hT hD _ hm1);have this2:q<=reachBytes:=by simpa using this
    simpa only [reachBytes] using this2
   refine⟨o,⟨r0,r1,r2,r3,big _ g4,big _ g5⟩,fun j u hj=>?_⟩;have hj6:j<6:=(List.getElem?_eq_some_iff.1 hj).1;rw[hc j hj6,ho];exact hj
  have each2:Nonempty qz:=⟨⟨0,0,0,0,⟨#[]⟩,⟨#[]⟩⟩⟩
  have hch:∃f:Nat->qz,∀i,i<len0->Dd (f i)/\∀(j:Nat) u,(Jo (f i))[j]?=some u->W.cell? ((a.add (i*6)).add j)=some u:=by
   classical
   refine⟨fun i=>if hi:i<len0 then Classical.choose (each i hi) else Classical.choice each2,fun i hi=>?_⟩;simp only[dif_pos hi];exact Classical.choose_spec (each i hi)
  obtain⟨f,hf2⟩:=hch;refine⟨(List.range len0).map f,by simp,by omega,fun o ho=>?_,fun i o hi=>?_⟩
  ·obtain⟨i,h1,rfl⟩:=List.mem_map.1 ho
   exact(hf2 i (List.mem_range.1 h1)).1
  ·rw[List.getElem?_map]at hi
   have hil:i<len0:=by
    rcases Nat.lt_or_ge i len0 with h | h
    ·exact h
    ·rw[List.getElem?_eq_none (by simp;exact h)]at hi;cases hi
   rw[List.getElem?_range hil]at hi
   cases hi
   have hc:=(hf2 i hil).2;obtain⟨b,off,spot⟩:=a;have hc0:=hc 0 _ rfl;have hspot:spot=none:=by simpa [Addr.add] using World.cell?_spot ((hf2 0 (by omega)).2 0 _ rfl)
   subst hspot;refine⟨b,off,rfl,?_,fun j u hj=>?_⟩
   ·rw[Cr,Cr]at hc0
    unfold World.cell? at hc0
    split at hc0
    ·next hh=>exact ae hh
    ·cases hc0
   ·have:=hc j u hj
    rw[Cr,Cr]at this;exact this
end
end Go.Proofs.YtpddjjabfbfifaaGreat

import Derived.Test.YtpddjjabfbfifaaGreatG19
namespace Go.Proofs.YtpddjjabfbfifaaGreat
open Go.RowKit
set_option maxHeartbeats 40000000
set_option maxRecDepth 100000 in
theorem rH(L:List Tk)(ao:Option Addr)(cap:Nat)(w:World)(hL:L.length<=100000)(hO:jN w ao cap L) :
  Calls Tryz.prog 83 #[.slice ao L.length cap] w fun e w'=>e=.returned (.bool (dJ L))/\w'=w:=by
 have hcap:=hO.1;obtain⟨n,HNL⟩:∃n,Hid (L.length=n):=⟨_,rfl⟩
 rw[HNL.out]at hL hcap ⊢
 by_cases hn:n=0
 ·have HB:Hid (dJ L=false):=by
   show _=_
   have:L=[]:=List.eq_nil_of_length_eq_zero (by rw[HNL.out,hn]);rw[this];rfl
  subst hn;go_enter Tryz.func83,Tryz.ntmps83;go_wp2;go_ret;exact⟨aB HB.out.symm,rfl⟩
 ·have hlt:n-1<L.length:=by rw[HNL.out];omega
  obtain⟨gs,rfl,hgs,-,q1,-⟩:=hO.2 (n-1) L[n-1] (List.getElem?_eq_getElem hlt)
  have HB:Hid (dJ L=!(L[n-1].rule==0)):=by
   show _=_
   unfold dJ;rw[List.getLast?_eq_getElem?,HNL.out,List.getElem?_eq_getElem hlt]
  generalize L[n-1]=t at *;obtain⟨ts,tr,tf,tl,tc⟩:=t;simp only at q1 HB;have hwr:IntKind.i64.wrap ((n:Int)-1)=(n:Int)-1:=by rw[IntKind.wrap_i64];omega
  have htn:((n:Int)-1).toNat=n-1:=by omega
  have b1:(0:Int)<=(n:Int)-1:=by omega
  have b2:(n:Int)-1<(n:Int):=by omega
  have b3:(1:Int)<=(n:Int):=by omega
  have b4:(0:Int)<(n:Int):=by omega
  have b5:0<n:=by omega
  go_enter Tryz.func83,Tryz.ntmps83;go_wp2
  all_goals go_ret
  all_goals (refine⟨aB ?_,rfl⟩;rw[HB.out];first | rfl | simp[*])
def lO(w:World)(ao:Option Addr)(cap:Nat)(fs:Fs):Prop:=fs.length<=cap/\∀k,k<fs.length->∃g,ao=some ⟨g,0,none⟩/\g<w.heap.size/\w.cell? ⟨g,k*2,none⟩=some (.string (aC fs k))/\w.cell? ⟨g,k*2+1,none⟩=some (.string (aj fs k))
theorem lO.still{w w':World}{ao:Option Addr}{cap:Nat}{fs:Fs}(h:lO w ao cap fs)(k:ab [] w w'):lO w' ao cap fs:=by
 refine⟨h.1,fun j hj=>?_⟩;obtain⟨g,e,hg,c0,c1⟩:=h.2 j hj;have q:∀o,w'.cell? ⟨g,o,none⟩=w.cell? ⟨g,o,none⟩:=fun o=>World.cell?_of_block (k.block g hg (by simp))
 exact⟨g,e,Nat.lt_of_lt_of_le hg k.size,by rw[q];exact c0,by rw[q];exact c1⟩
theorem kT(fs:Fs)(ao:Option Addr)(cap:Nat)(n:ByteArray)(w:World)(hL:fs.length<=100000)(hO:lO w ao cap fs) :
  Calls Tryz.prog 35 #[.slice ao fs.length cap,.string n] w fun e w'=>e=.returned (.int .i64 (bu fs n))/\w'=w:=by
 have hcap:=hO.1;have HO:=(show Hid _ from hO);clear hO;go_enter Tryz.func35,Tryz.ntmps35;go_wp2
 go_loopg [5] fs.length (fun g i wr=>∃k:Nat,k<=fs.length/\g=fs.length-k/\i=.int .i64 k/\Hid (bu fs n=cY n (fs.drop k) k)/\wr=w)
 case atStart=>exact⟨0,by omega,by omega,rfl,rfl,rfl⟩
 case round =>
  obtain⟨k,hk,hg,rfl,hall,rfl⟩:=hrel
  by_cases hlt:k<fs.length
  ·obtain⟨gs,rfl,hgs,q0,q1⟩:=HO.out.2 k hlt
   have hki:(k:Int)<(fs.length:Int):=by omega
   cases hb:((aC fs k).toList==n.toList)
   ·have HM:Hid (bu fs n=cY n (fs.drop (k+1)) (k+1)):=vL fs n k hlt hall.out hb
    clear hall;go_wp2
    go_roundg (fs.length-(k+1))
    case measure=>omega
    case rel=>exact⟨k+1,by omega,rfl,by go_num,HM,rfl⟩
   ·have HM:Hid (bu fs n=k):=yH fs n k hlt hall.out hb
    clear hall;go_wp2;go_ret;exact⟨am HM.out.symm,rfl⟩
  ·have HM:Hid (bu fs n=-1):=vM fs n k hlt hall.out
   clear hall;go_wp2;go_ret;exact⟨am HM.out.symm,rfl⟩
def cN(fs:Fs)(s:ByteArray)(r:Int):Int :=
 if(r==0)=false then r else if(s.toList == [])=true then 7 else if ge s ⟨#[36]⟩=true then 5 else if bu fs s<0 then 6 else 0
def dh(s:ByteArray)(r:Int):Int :=
 if(r==0)=false then r else if(s.toList == [])=true then 7 else if(s.toList == [36,93])=false then 5 else 0
set_option maxRecDepth 100000 in
theorem yj(ts tf:ByteArray)(tr tl tc:Int)(w:World) :
  Calls Tryz.prog 119 #[.agg #[.string ts,.int .i64 tr,.string tf,.int .i64 tl,.int .i64 tc]] w fun e w'=>e=.returned (.agg #[.string ⟨#[]⟩,.int .i64 (dh ts tr),.string tf,.int .i64 tl,.int .i64 tc])/\ab [] w w':=by
 cases hr:(tr==0)
 ·have HE:Hid (dh ts tr=tr):=by show _=_;unfold dh;rw[if_pos hr]
  rw[HE.out];go_enter Tryz.func119,Tryz.ntmps119;go_wp2;exact bodyPost_ret (v:=.agg #[.string ⟨#[]⟩,.int .i64 tr,.string tf,.int .i64 tl,.int .i64 tc]) (by simp[results,Tryz.results119,go_sem]) rfl ⟨rfl,((ab.refl _ _).alloc _).alloc _⟩
 ·have hr0:tr=0:=by simpa using hr
  subst hr0;clear hr
  cases h1:(ts.toList == [])
  ·cases h2:(ts.toList == [36,93])
   ·have HE:Hid (dh ts 0=5):=by show _=_;unfold dh;rw[if_neg (by simp),if_neg (by rw[h1];simp),if_pos h2]
    rw[HE.out];go_enter Tryz.func119,Tryz.ntmps119;go_wp2;exact bodyPost_ret (v:=.agg #[.string ⟨#[]⟩,.int .i64 5,.string tf,.int .i64 tl,.int .i64 tc]) (by simp[results,Tryz.results119,go_sem]) rfl ⟨rfl,((ab.refl _ _).alloc _).alloc _⟩
   ·have HE:Hid (dh ts 0=0):=by show _=_;unfold dh;rw[if_neg (by simp),if_neg (by rw[h1];simp),if_neg (by rw[h2];simp)]
    rw[HE.out];go_enter Tryz.func119,Tryz.ntmps119;go_wp2;exact bodyPost_ret (v:=.agg #[.string ⟨#[]⟩,.int .i64 0,.string tf,.int .i64 tl,.int .i64 tc]) (by simp[results,Tryz.results119,go_sem]) rfl ⟨rfl,((ab.refl _ _).alloc _).alloc _⟩
  ·have HE:Hid (dh ts 0=7):=by show _=_;unfold dh;rw[if_neg (by simp),if_pos h1]
   rw[HE.out];go_enter Tryz.func119,Tryz.ntmps119;go_wp2;exact bodyPost_ret (v:=.agg #[.string ⟨#[]⟩,.int .i64 7,.string tf,.int .i64 tl,.int .i64 tc]) (by simp[results,Tryz.results119,go_sem]) rfl ⟨rfl,((ab.refl _ _).alloc _).alloc _⟩
set_option maxRecDepth 100000 in
theorem A8(fs:Fs)(ao:Option Addr)(cap:Nat)(ts tf:ByteArray)(tr tl tc:Int)(w:World)(hL:fs.length<=100000)(hO:lO w ao cap fs)(hts:ts.size<=1073741824) :
  Calls Tryz.prog 118 #[.slice ao fs.length cap,.agg #[.string ts,.int .i64 tr,.string tf,.int .i64 tl,.int .i64 tc]] w fun e w'=>e=.returned (.agg #[.string ⟨#[]⟩,.int .i64 (cN fs ts tr),.string tf,.int .i64 tl,.int .i64 tc])/\ab [] w w':=by
 have HFN:Hid (∀wx,ab [] w wx->Calls Tryz.prog 35 #[.slice ao fs.length cap,.string ts] wx fun e w'=>e=.returned (.int .i64 (bu fs ts))/\w'=wx):=fun wx k=>kT fs ao cap ts wx hL (hO.still k)
 obtain⟨fd,HFD⟩:∃fd,Hid (bu fs ts=fd):=⟨_,rfl⟩
 rw[HFD.out]at HFN
 cases hr:(tr==0)
 ·have HE:Hid (cN fs ts tr=tr):=by show _=_;unfold cN;rw[if_pos hr]
  rw[HE.out];go_enter Tryz.func118,Tryz.ntmps118;go_wp2_with (first | (go_at_call 120;refine(eL ts _ _ (by omega) (by show 1<=_;omega)).mono ?_;rintro e w1 ⟨rfl,hw1⟩;rw[hw1];clear hw1) | (go_at_call 35;refine(HFN.out _ (by exact((ab.refl [] w).alloc _).alloc _)).mono ?_;rintro e w1 ⟨rfl,hw1⟩;rw[hw1];clear hw1));exact bodyPost_ret (v:=.agg #[.string ⟨#[]⟩,.int .i64 tr,.string tf,.int .i64 tl,.int .i64 tc]) (by simp[results,Tryz.results118,go_sem]) rfl ⟨rfl,((ab.refl _ _).alloc _).alloc _⟩
 ·have hr0:tr=0:=by simpa using hr
  subst hr0;clear hr
  cases h1:(ts.toList == [])
  ·cases h2:ge ts ⟨#[36]⟩
   ·by_cases h3:fd<0
    ·have HE:Hid (cN fs ts 0=6):=by show _=_;unfold cN;rw[if_neg (by simp),if_neg (by rw[h1];simp),if_neg (by rw[h2];simp),HFD.out,if_pos h3]
     rw[HE.out];go_enter Tryz.func118,Tryz.ntmps118;go_wp2_with (first | (go_at_call 120;refine(eL ts _ _ (by omega) (by show 1<=_;omega)).mono ?_;rintro e w1 ⟨rfl,hw1⟩;rw[hw1];clear hw1) | (go_at_call 35;refine(HFN.out _ (by exact((ab.refl [] w).alloc _).alloc _)).mono ?_;rintro e w1 ⟨rfl,hw1⟩;rw[hw1];clear hw1));exact bodyPost_ret (v:=.agg #[.string ⟨#[]⟩,.int .i64 6,.string tf,.int .i64 tl,.int .i64 tc]) (by simp[results,Tryz.results118,go_sem]) rfl ⟨rfl,((ab.refl _ _).alloc _).alloc _⟩
    ·have HE:Hid (cN fs ts 0=0):=by show _=_;unfold cN;rw[if_neg (by simp),if_neg (by rw[h1];simp),if_neg (by rw[h2];simp),HFD.out,if_neg h3]
     rw[HE.out];go_enter Tryz.func118,Tryz.ntmps118;go_wp2_with (first | (go_at_call 120;refine(eL ts _ _ (by omega) (by show 1<=_;omega)).mono ?_;rintro e w1 ⟨rfl,hw1⟩;rw[hw1];clear hw1) | (go_at_call 35;refine(HFN.out _ (by exact((ab.refl [] w).alloc _).alloc _)).mono ?_;rintro e w1 ⟨rfl,hw1⟩;rw[hw1];clear hw1));exact bodyPost_ret (v:=.agg #[.string ⟨#[]⟩,.int .i64 0,.string tf,.int .i64 tl,.int .i64 tc]) (by simp[results,Tryz.results118,go_sem]) rfl ⟨rfl,((ab.refl _ _).alloc _).alloc _⟩
   ·have HE:Hid (cN fs ts 0=5):=by show _=_;unfold cN;rw[if_neg (by simp),if_neg (by rw[h1];simp),if_pos h2]
    rw[HE.out];go_enter Tryz.func118,Tryz.ntmps118;go_wp2_with (first | (go_at_call 120;refine(eL ts _ _ (by omega) (by show 1<=_;omega)).mono ?_;rintro e w1 ⟨rfl,hw1⟩;rw[hw1];clear hw1) | (go_at_call 35;refine(HFN.out _ (by exact((ab.refl [] w).alloc _).alloc _)).mono ?_;rintro e w1 ⟨rfl,hw1⟩;rw[hw1];clear hw1));exact bodyPost_ret (v:=.agg #[.string ⟨#[]⟩,.int .i64 5,.string tf,.int .i64 tl,.int .i64 tc]) (by simp[results,Tryz.results118,go_sem]) rfl ⟨rfl,((ab.refl _ _).alloc _).alloc _⟩
  ·have HE:Hid (cN fs ts 0=7):=by show _=_;unfold cN;rw[if_neg (by simp),if_pos h1]
   rw[HE.out];go_enter Tryz.func118,Tryz.ntmps118;go_wp2_with (first | (go_at_call 120;refine(eL ts _ _ (by omega) (by show 1<=_;omega)).mono ?_;rintro e w1 ⟨rfl,hw1⟩;rw[hw1];clear hw1) | (go_at_call 35;refine(HFN.out _ (by exact((ab.refl [] w).alloc _).alloc _)).mono ?_;rintro e w1 ⟨rfl,hw1⟩;rw[hw1];clear hw1));exact bodyPost_ret (v:=.agg #[.string ⟨#[]⟩,.int .i64 7,.string tf,.int .i64 tl,.int .i64 tc]) (by simp[results,Tryz.results118,go_sem]) rfl ⟨rfl,((ab.refl _ _).alloc _).alloc _⟩
def sg(L:List Tk):Prop:=∃t,L.getLast?=some t/\(t.s.toList == [])=true
theorem sg.next{L:List Tk}(h:sg L)(i:Nat)(t:Tk)(hi:L[i]?=some t)(hs:(t.s.toList == [])=false):i+1<L.length:=by
 obtain⟨u,h1,h2⟩:=h;obtain⟨hl,-⟩:=List.getElem?_eq_some_iff.1 hi;rw[List.getLast?_eq_getElem?]at h1
 by_cases e:i=L.length-1
 ·rw[<-e,hi]at h1
  cases h1
  rw[h2]at hs
  cases hs
 ·omega
theorem qM{t:Tk}{L:List Tk}(h:sg L):sg (t :: L):=by
 obtain⟨u,h1,h2⟩:=h
 cases L with
 | nil=>cases h1
 | cons a r=>exact⟨u,by rw[List.getLast?_cons_cons];exact h1,h2⟩
theorem mM:((⟨#[]⟩:ByteArray).toList == [])=true:=by decide +kernel
theorem yw(f:ByteArray)(r l c:Int):sg [⟨⟨#[]⟩,r,f,l,c⟩]:=⟨_,rfl,mM⟩
theorem Fm(nm d:ByteArray):sg (fS nm d):=by
 unfold fS
 split
 ·exact⟨_,List.getLast?_concat,mM⟩
 ·exact⟨_,List.getLast?_concat,mM⟩
theorem Di(b:Bool)(L:List Tk)(h:sg L):sg (bJ b L):=by
 induction L generalizing b with
 | nil=>obtain⟨u,h1,-⟩:=h;cases h1
 | cons t r ih =>
  cases r with
  | nil =>
   obtain⟨u,h1,h2⟩:=h;have e:u=t:=by simpa using h1.symm
   subst e;have e0:u.s.toList=[]:=by simpa using h2
   cases b
   ·rw[bJ,if_neg (by unfold Ac;rw[e0];decide)]
    exact⟨u,rfl,h2⟩
   ·rw[bJ]
    split
    ·exact⟨u,rfl,h2⟩
    ·rw[if_neg (by unfold Ac;rw[e0];decide),if_pos (by unfold Ac;exact h2)]
     exact yw _ _ _ _
  | cons a r =>
   have hr:sg (a :: r):=by
    obtain⟨u,h1,h2⟩:=h;exact⟨u,by rw[List.getLast?_cons_cons]at h1;exact h1,h2⟩
   cases b
   ·rw[bJ]
    split
    ·exact ih true hr
    ·exact qM (ih false hr)
   ·rw[bJ]
    split
    ·exact qM (ih true hr)
    ·split
     ·exact ih false hr
     ·split
      ·exact qM (ih true hr)
      ·split
       ·exact yw _ _ _ _
       ·exact ih true hr
def oP(fs:Fs)(k:Nat):List Tk:=bJ false (fS (aC fs k) (aj fs k))
theorem In(fs:Fs)(k:Nat):sg (oP fs k):=Di _ _ (Fm _ _)
theorem zP(fs:Fs)(k:Nat):(oP fs k).length<=(aj fs k).size+2:=Nat.le_trans (FO _ _) (wD _ _)
def oK(t:Tk)(r:Int):Tk:=⟨⟨#[]⟩,r,t.file,t.line,t.col⟩
def b9(rec:Nat->List Bool->List Tk->List Tk×List Bool)(fs:Fs):List Tk->List Bool->List Tk->List Tk×List Bool
 | [],sn,out=>(out,sn)
 | t :: r,sn,out =>
  if((t.rule==0)&&(t.s.toList == []))=true then((if cI out=true then out else out++[oK t 7]),sn)
  else if(t.s.toList == [36,91])=false then b9 rec fs r sn (out++[t])
  else if cI out=false then(out++[oK t 4],sn)
  else match r with
   | a :: b :: r' =>
    if(cN fs a.s a.rule==0)=false then(out++[oK a (cN fs a.s a.rule)],sn)
    else if(dh b.s b.rule==0)=false then(out++[oK b (dh b.s b.rule)],sn)
    else if sn.getD (bu fs a.s).toNat true=true then b9 rec fs r' sn out
    else if dJ (rec (bu fs a.s).toNat sn out).1=true then rec (bu fs a.s).toNat sn out
    else b9 rec fs r' (rec (bu fs a.s).toNat sn out).2 (rec (bu fs a.s).toNat sn out).1
   | [a]=>(out++[oK a (cN fs a.s a.rule)],sn)
   | []=>(out,sn)
def dy(fs:Fs):Nat->Nat->List Bool->List Tk->List Tk×List Bool
 | 0,_,sn,out=>(out,sn)
 | n+1,k,sn,out=>b9 (dy fs n) fs (oP fs k) (sn.set k true) out
def aO(sn:List Bool):Nat:=sn.countP (fun b=>!b)
theorem j6(sn:List Bool)(k:Nat)(h:sn[k]?=some false):aO (sn.set k true)+1=aO sn:=by
 unfold aO
 induction sn generalizing k with
 | nil=>cases h
 | cons b r ih =>
  cases k with
  | zero =>
   simp at h;subst h;simp
  | succ k =>
   have:=ih k (by simpa using h);rw[List.set_cons_succ,List.countP_cons,List.countP_cons];omega
def iu(w:World)(g:Nat)(sn:List Bool):Prop:=w.heap[g]?=some (.cells (sn.map Value.bool).toArray 4 (0,0))
theorem iu.cell{w:World}{g:Nat}{sn:List Bool}(h:iu w g sn)(k:Nat)(b:Bool)(hb:sn[k]?=some b):w.cell? ⟨g,k,none⟩=some (.bool b):=by
 rw[aa h];simp[hb]
theorem iu.kept{w w':World}{g:Nat}{sn:List Bool}{S:List Nat}(h:iu w g sn)(k:ab S w w')(hg:g∉S):iu w' g sn:=k.get h hg
theorem iu.set{w:World}{g:Nat}{sn:List Bool}(h:iu w g sn)(k:Nat):iu (w.setCell ⟨g,k,none⟩ (.bool true)) g (sn.set k true):=by
 unfold iu;rw[ah h];simp[List.map_set]
theorem BY(sn:List Bool)(k:Nat)(h:sn[k]?=some false):0<aO sn:=by
 have:=j6 sn k h;omega
structure qA(w w':World)(gs:Nat)(h h':Hd):Prop where
 kept:ab (gs :: h.blk.toList) w w'
 blk:h'.blk=h.blk∨∃g,h'.blk=some g/\w.heap.size<=g
theorem qA.refl(w:World)(gs:Nat)(h:Hd):qA w w gs h h:=⟨ab.refl _ _,Or.inl rfl⟩
theorem qA.of{w w':World}{gs:Nat}{h h':Hd}(g:bh w w' h h'):qA w w' gs h h':=⟨g.kept.mono (fun _ hx _=>List.mem_cons_of_mem _ hx),g.blk⟩
theorem qA.trans{w w1 w2:World}{gs:Nat}{h h1 h2:Hd}(a:qA w w1 gs h h1)(b:qA w1 w2 gs h1 h2):qA w w2 gs h h2:=by
 refine⟨⟨b.kept.os.trans a.kept.os,b.kept.tape.trans a.kept.tape,b.kept.output.trans a.kept.output,Nat.le_trans a.kept.size b.kept.size,fun k hk hn=>?_⟩,?_⟩
 ·rw[b.kept.block k (Nat.lt_of_lt_of_le hk a.kept.size) (fun hq=>?_),a.kept.block k hk hn]
  rcases List.mem_cons.1 hq with e | hq
  ·exact hn (by rw[e];simp)
  ·have e:=aK hq
   rcases a.blk with e2 | ⟨g,e2,hg⟩
   ·exact hn (List.mem_cons_of_mem _ (by rw[<-e2,e];simp))
   ·rw[e2]at e;cases e;omega
 ·rcases b.blk with e | ⟨g,e,hg⟩
  ·rcases a.blk with e2 | ⟨g,e2,hg⟩
   ·exact Or.inl (e.trans e2)
   ·exact Or.inr ⟨g,e.trans e2,hg⟩
  ·exact Or.inr ⟨g,e,Nat.le_trans a.kept.size hg⟩
structure oV(w:World)(gf cap:Nat)(fs:Fs)(gs:Nat)(sn:List Bool)(h:Hd)(O:List Tk):Prop where
 own:aA w h (f9 O)
 seen:iu w gs sn
 src:lO w (some ⟨gf,0,none⟩) cap fs
 a1:h.blk≠some gs
 a2:h.blk≠some gf
 a3:gf≠gs
 lt:gf<w.heap.size
theorem lO.kept{w w':World}{gf cap:Nat}{fs:Fs}{S:List Nat}(h:lO w (some ⟨gf,0,none⟩) cap fs)(k:ab S w w')(hg:gf∉S):lO w' (some ⟨gf,0,none⟩) cap fs:=by
 refine⟨h.1,fun j hj=>?_⟩;obtain⟨g,e,hl,c0,c1⟩:=h.2 j hj;have e2:g=gf:=by cases e;rfl
 subst e2;have q:∀o,w'.cell? ⟨g,o,none⟩=w.cell? ⟨g,o,none⟩:=fun o=>World.cell?_of_block (k.block g hl hg)
 exact⟨g,rfl,Nat.lt_of_lt_of_le hl k.size,by rw[q];exact c0,by rw[q];exact c1⟩
section
variable {w w':World} {gf cap:Nat} {fs:Fs} {gs:Nat} {sn sn':List Bool} {h h':Hd} {O O':List Tk}
theorem oV.still(a:oV w gf cap fs gs sn h O)(k:ab [] w w'):oV w' gf cap fs gs sn h O :=
 ⟨a.own.still k,a.seen.kept k (by simp),a.src.kept k (by simp),a.a1,a.a2,a.a3,Nat.lt_of_lt_of_le a.lt k.size⟩
theorem oV.far(a:oV w gf cap fs gs sn h O)(r:qA w w' gs h h'):h'.blk≠some gs/\h'.blk≠some gf:=by
 have l1:=ae a.seen;have l2:=a.lt
 rcases r.blk with e | ⟨g,e,hg⟩
 ·rw[e];exact⟨a.a1,a.a2⟩
 ·rw[e];exact⟨fun q=>by cases q;omega,fun q=>by cases q;omega⟩
theorem oV.turn(a:oV w gf cap fs gs sn h O)(r:qA w w' gs h h')(o:aA w' h' (f9 O'))(s:iu w' gs sn'):oV w' gf cap fs gs sn' h' O':=by
 obtain⟨f1,f2⟩:=a.far r;refine⟨o,s,a.src.kept r.kept (fun hq=>?_),f1,f2,a.a3,Nat.lt_of_lt_of_le a.lt r.kept.size⟩
 rcases List.mem_cons.1 hq with e | hq
 ·exact a.a3 e
 ·exact a.a2 (aK hq)
theorem oV.grew(a:oV w gf cap fs gs sn h O)(g:bh w w' h h')(o:aA w' h' (f9 O')):oV w' gf cap fs gs sn h' O' :=
 a.turn (qA.of g) o (a.seen.kept g.kept (fun hq=>a.a1 (aK hq)))
end
theorem Fj(d:ByteArray)(a z:Nat):(d.extract a z).size<=d.size:=by rw[ByteArray.size_extract];omega
theorem uQ(nm d:ByteArray)(a z:Nat)(L:List Tk)(h:∀t∈L,t.s.size<=d.size):∀t∈ia nm d a z L,t.s.size<=d.size:=by
 intro t ht;unfold ia at ht
 split at ht
 ·exact h t ht
 ·rcases List.mem_append.1 ht with ht | ht
  ·exact h t ht
  ·rw[List.mem_singleton.1 ht];exact Fj d a z
theorem wy(nm d:ByteArray)(i:Nat):∀t∈h9 nm d i,t.s.size<=d.size:=by
 induction i with
 | zero=>intro t ht;cases ht
 | succ i ih =>
  rw[h9]
  split
  ·exact uQ nm d _ _ _ ih
  ·exact ih
theorem uT(nm d:ByteArray):∀t∈fS nm d,t.s.size<=d.size:=by
 intro t ht;unfold fS at ht
 split at ht
 ·rcases List.mem_append.1 ht with ht | ht
  ·exact wy nm d _ t ht
  ·rw[List.mem_singleton.1 ht];exact Nat.zero_le _
 ·rcases List.mem_append.1 ht with ht | ht
  ·exact uQ nm d _ _ _ (wy nm d _) t ht
  ·rw[List.mem_singleton.1 ht];exact Nat.zero_le _
theorem Dk(m:Nat)(b:Bool)(L:List Tk)(h:∀t∈L,t.s.size<=m):∀t∈bJ b L,t.s.size<=m:=by
 induction L generalizing b with
 | nil=>intro t ht;cases b <;> simp[bJ]at ht
 | cons a r ih =>
  have h1:=fun b=>ih b (fun t ht=>h t (List.mem_cons_of_mem _ ht))
  have h0:=h a (by simp);intro t ht
  cases b
  ·rw[bJ]at ht
   split at ht
   ·exact h1 _ t ht
   ·rcases List.mem_cons.1 ht with e | ht
    ·rw[e];exact h0
    ·exact h1 _ t ht
  ·rw[bJ]at ht
   split at ht
   ·rcases List.mem_cons.1 ht with e | ht
    ·rw[e];exact h0
    ·exact h1 _ t ht
   ·split at ht
    ·exact h1 _ t ht
    ·split at ht
     ·rcases List.mem_cons.1 ht with e | ht
      ·rw[e];exact Nat.zero_le _
      ·exact h1 _ t ht
     ·split at ht
      ·rw[List.mem_singleton.1 ht];exact Nat.zero_le _
      ·exact h1 _ t ht
theorem Fd(fs:Fs)(k:Nat):∀t∈oP fs k,t.s.size<=(aj fs k).size:=Dk _ _ _ (uT _ _)
def Fx(w:World)(gs:Nat)(sn:List Bool)(h:Hd)(out:List Tk)(R:List Tk×List Bool)(e:Ending)(w':World):Prop :=
 ∃h',e=.returned (.slice h'.ao R.1.length h'.cap)/\aA w' h' (f9 R.1)/\iu w' gs R.2/\qA w w' gs h h'/\R.2.length=sn.length/\R.1.length+2000*aO R.2<=out.length+2000*aO sn/\aO R.2<=aO sn
structure Fo(w wr:World)(gf cap:Nat)(fs:Fs)(gs:Nat)(sn:List Bool)(h h':Hd)(O:List Tk)(gT capT:Nat)(T:List Tk):Prop where
 i:oV wr gf cap fs gs sn h' O
 r:qA w wr gs h h'
 t:aA wr ⟨some ⟨gT,0,none⟩,capT⟩ (f9 T)
 b1:h'.blk≠some gT
 b2:gT≠gs
section
variable {w wr wr':World} {gf cap:Nat} {fs:Fs} {gs:Nat} {sn sn':List Bool} {h h' h'':Hd} {O O':List Tk} {gT capT:Nat} {T:List Tk}
theorem Fo.turn(a:Fo w wr gf cap fs gs sn h h' O gT capT T)(r:qA wr wr' gs h' h'')(o:aA wr' h'' (f9 O'))(s:iu wr' gs sn'):Fo w wr' gf cap fs gs sn' h h'' O' gT capT T:=by
 have l1:gT<wr.heap.size:=a.t.lt rfl;refine⟨a.i.turn r o s,a.r.trans r,a.t.moved (fun q hq=>r.kept.block q (a.t.lt hq) (fun hm=>?_)),?_,a.b2⟩
 ·have e:q=gT:=by cases hq;rfl
  subst e
  rcases List.mem_cons.1 hm with e | hm
  ·exact a.b2 e
  ·exact a.b1 (aK hm)
 ·rcases r.blk with e | ⟨g,e,hg⟩
  ·rw[e];exact a.b1
  ·rw[e];intro q;cases q;omega
theorem Fo.grew(a:Fo w wr gf cap fs gs sn h h' O gT capT T)(g:bh wr wr' h' h'')(o:aA wr' h'' (f9 O')):Fo w wr' gf cap fs gs sn h h'' O' gT capT T :=
 a.turn (qA.of g) o (a.i.seen.kept g.kept (fun hq=>a.i.a1 (aK hq)))
theorem Fo.still(a:Fo w wr gf cap fs gs sn h h' O gT capT T)(k:ab [] wr wr'):Fo w wr' gf cap fs gs sn h h' O gT capT T :=
 a.grew (bh.still k) (a.i.own.still k)
end
theorem mS{w w5:World}{gf cap:Nat}{fs:Fs}{gs:Nat}{sn sn':List Bool}{h h5:Hd}{out O5:List Tk}{gT capT:Nat}{T:List Tk}{R:List Tk×List Bool}(a:Fo w w5 gf cap fs gs sn' h h5 O5 gT capT T)(e:R=(O5,sn'))(hl:sn'.length=sn.length)(h1:O5.length+2000*aO sn'<=out.length+2000*aO sn)(h2:aO sn'<=aO sn){m:Nat}(hm:m=O5.length):Fx w gs sn h out R (.returned (.slice h5.ao m h5.cap)) w5:=by
 subst e;subst hm;exact⟨h5,rfl,a.i.own,a.i.seen,a.r,hl,h1,h2⟩
theorem v8{rec:Nat->List Bool->List Tk->List Tk×List Bool}{fs:Fs}{t:Tk}{r:List Tk}{sn:List Bool}{O:List Tk}(h:((t.rule==0)&&(t.s.toList == []))=true):b9 rec fs (t :: r) sn O=((if cI O=true then O else O++[oK t 7]),sn):=by
 rw[b9.eq_def];simp only;rw[if_pos h]
theorem Bn{rec:Nat->List Bool->List Tk->List Tk×List Bool}{fs:Fs}{t:Tk}{r:List Tk}{sn:List Bool}{O:List Tk}(h:((t.rule==0)&&(t.s.toList == []))=false)(h2:(t.s.toList == [36,91])=false):b9 rec fs (t :: r) sn O=b9 rec fs r sn (O++[t]):=by
 rw[b9.eq_def];simp only;rw[if_neg (by rw[h];simp),if_pos h2]
theorem EC{rec:Nat->List Bool->List Tk->List Tk×List Bool}{fs:Fs}{t:Tk}{r:List Tk}{sn:List Bool}{O:List Tk}(h:((t.rule==0)&&(t.s.toList == []))=false)(h2:(t.s.toList == [36,91])=true)(h3:cI O=false):b9 rec fs (t :: r) sn O=(O++[oK t 4],sn):=by
 rw[b9.eq_def];simp only;rw[if_neg (by rw[h];simp),if_neg (by rw[h2];simp),if_pos h3]
theorem zs{rec:Nat->List Bool->List Tk->List Tk×List Bool}{fs:Fs}{t a:Tk}{r:List Tk}{sn:List Bool}{O:List Tk}(h:((t.rule==0)&&(t.s.toList == []))=false)(h2:(t.s.toList == [36,91])=true)(h3:cI O=true)(h4:(cN fs a.s a.rule==0)=false):b9 rec fs (t :: a :: r) sn O=(O++[oK a (cN fs a.s a.rule)],sn):=by
 rw[b9.eq_def];simp only;rw[if_neg (by rw[h];simp),if_neg (by rw[h2];simp),if_neg (by rw[h3];simp)]
 cases r with
 | nil=>rfl
 | cons b r=>simp only;rw[if_pos h4]
theorem EB{rec:Nat->List Bool->List Tk->List Tk×List Bool}{fs:Fs}{t a b:Tk}{r:List Tk}{sn:List Bool}{O:List Tk}(h:((t.rule==0)&&(t.s.toList == []))=false)(h2:(t.s.toList == [36,91])=true)(h3:cI O=true)(h4:(cN fs a.s a.rule==0)=true):b9 rec fs (t :: a :: b :: r) sn O =
  if(dh b.s b.rule==0)=false then(O++[oK b (dh b.s b.rule)],sn)
  else if sn.getD (bu fs a.s).toNat true=true then b9 rec fs r sn O
  else if dJ (rec (bu fs a.s).toNat sn O).1=true then rec (bu fs a.s).toNat sn O
  else b9 rec fs r (rec (bu fs a.s).toNat sn O).2 (rec (bu fs a.s).toNat sn O).1:=by
 rw[b9.eq_def];simp only;rw[if_neg (by rw[h];simp),if_neg (by rw[h2];simp),if_neg (by rw[h3];simp),if_neg (by rw[h4];simp)]
theorem yG(n:ByteArray)(fs:Fs)(i:Nat):cY n fs i<(i:Int)+fs.length∨fs.length=0:=by
 induction fs generalizing i with
 | nil=>exact Or.inr rfl
 | cons f r ih =>
  left
  rw[cY]
  split
  ·simp;omega
  ·rcases ih (i+1) with h | h
   ·simp at h ⊢;omega
   ·rw[List.eq_nil_of_length_eq_zero h,cY];simp;omega
theorem IR{fs:Fs}{n:ByteArray}(h:0<=bu fs n):bu fs n<fs.length:=by
 unfold bu at h ⊢
 rcases yG n fs 0 with e | e
 ·simpa using e
 ·rw[List.eq_nil_of_length_eq_zero e,cY]at h;omega
theorem Ba{fs:Fs}{s:ByteArray}{r:Int}(h:(cN fs s r==0)=true):(s.toList == [])=false/\0<=bu fs s:=by
 unfold cN at h
 cases hr:(r==0)
 ·rw[if_pos hr,hr]at h;cases h
 ·rw[if_neg (by rw[hr];simp)]at h
  cases hs:(s.toList == [])
  ·rw[if_neg (by rw[hs];simp)]at h
   refine⟨rfl,?_⟩
   split at h
   ·cases h
   ·split at h
    ·cases h
    ·omega
  ·rw[if_pos hs]at h;cases h
set_option maxRecDepth 100000 in
theorem ED(fs:Fs)(gf cap:Nat)(hfl:fs.length<=4)(hfd:∀k,(aj fs k).size<=1024)(n:Nat):∀(k:Nat) (sn:List Bool) (out:List Tk) (h:Hd) (gs scap:Nat) (w:World),aO sn<=n->sn.length=fs.length->fs.length<=scap->k<fs.length->sn[k]?=some false->out.length+2000*aO sn<=100000->oV w gf cap fs gs sn h out ->
  Calls Tryz.prog 82 #[.slice (some ⟨gf,0,none⟩) fs.length cap,.int .i64 k,.slice (some ⟨gs,0,none⟩) fs.length scap,.slice h.ao out.length h.cap] w fun e w'=>Fx w gs sn h out (dy fs n k sn out) e w':=by
 induction n with
 | zero=>intro k sn out h gs scap w hn hsl hsc hk hs;have:=BY sn k hs;omega
 | succ n ih =>
  intro k sn out h gs scap w hn hsl hsc hk hs hb hI;have HIH:=(show Hid _ from ih);clear ih;have hki:(k:Int)<(fs.length:Int):=by omega
  have s0:=hI.seen.cell k false hs;have s1:=ak hI.seen k;have hgs:=ae hI.seen;have hcap:=hI.src.1;have k1:ab [gs] w (w.setCell ⟨gs,k,none⟩ (.bool true)):=(ab.refl [gs] w).setCell (Or.inl (by simp)) _;obtain⟨w1,Hw1⟩:∃w1,Hid (w.setCell ⟨gs,k,none⟩ (.bool true)=w1):=⟨_,rfl⟩
  rw[Hw1.out]at k1;have R1:qA w w1 gs h h:=⟨k1.mono (fun x hx _=>by simp at hx;simp[hx]),Or.inl rfl⟩;have hI1:oV w1 gf cap fs gs (sn.set k true) h out:=hI.turn R1 (hI.own.moved (fun q hq=>k1.block q (hI.own.lt hq) (by simp;intro e;exact hI.a1 (by rw[<-e];exact hq)))) (by rw[<-Hw1.out];exact hI.seen.set k);have hu:=j6 sn k hs;have hl1:(sn.set k true).length=fs.length:=by rw[List.length_set];exact hsl
  obtain⟨gf',e1,hgf,c0,c1⟩:=hI1.src.2 k hk
  cases e1
  have hdl:=hfd k;have HTL:=(show Hid _ from zP fs k);have HTE:=(show Hid _ from In fs k);have HTS:=(show Hid _ from Fd fs k);have HT:Hid (oP fs k=bJ false (fS (aC fs k) (aj fs k))):=rfl;have HR:Hid (dy fs (n+1) k sn out=b9 (dy fs n) fs (oP fs k) (sn.set k true) out):=rfl;have HWS:=(show Hid _ from uT (aC fs k) (aj fs k));have hwl:=wD (aC fs k) (aj fs k);obtain⟨R,HRR⟩:∃R,Hid (dy fs (n+1) k sn out=R):=⟨_,rfl⟩
  rw[HRR.out]at HR ⊢;have HI1:=(show Hid _ from hI1);have HR1:=(show Hid _ from R1);clear hI1 R1 k1 hI;go_enter Tryz.func82,Tryz.ntmps82
  go_upto_region 2 with fail
  rw[Hw1.out]
  go_upto_region 3 with (go_at_call 115;refine(Cg _ _ _ (by omega)).mono ?_;rintro e w2 ⟨hW,rfl,oW,kW,fW⟩)
  have HBR:=(show Hid _ from Dh (fS (aC fs k) (aj fs k)) hW.ao hW.cap w2 (by omega) oW.src (fun t ht=>by have:=HWS.out t ht;omega));rw[<-HT.out]at HBR
  go_upto_region 4 with (go_at_call 116;refine(Calls.mono HBR.out ?_);rintro e w3 ⟨hT,rfl,bT⟩)
  obtain⟨T,HTT⟩:∃T,Hid (oP fs k=T):=⟨_,rfl⟩
  rw[HTT.out]at HTL HTE HTS HR bT ⊢
  have hTp:0<T.length:=by
   obtain⟨u,e1,-⟩:=HTE.out
   cases T with
   | nil=>cases e1
   | cons _ _=>simp
  obtain⟨gT,eT,hgT,hcT⟩:=oe bT.own hTp;obtain⟨aoT,capT⟩:=hT;simp only at eT;subst eT;have hcT:T.length<=capT:=hcT;have hTl:T.length<=1026:=by have:=HTL.out;omega
  have HS0:Hid (Fo w w3 gf cap fs gs (sn.set k true) h h out gT capT T):=by
   have f1:=bT.far gT rfl;have f2:=kW.size;have f3:=ae HI1.out.seen;refine⟨(HI1.out.still kW).still bT.kept,HR1.out.trans (qA.of (bh.still (kW.trans bT.kept))),bT.own,fun e=>?_,by omega⟩;have:=HI1.out.own.lt e;omega
  obtain⟨U1,HU1⟩:∃U1,Hid (aO (sn.set k true)=U1):=⟨_,rfl⟩
  obtain⟨U,HU⟩:∃U,Hid (aO sn=U):=⟨_,rfl⟩
  rw[HU1.out]at hu;rw[HU.out]at hu hn hb;clear c0 c1 s0 s1 hgf HI1 HR1 Hw1 oW kW fW HBR bT HWS HT hwl;go_wp2
  go_loopg [3,11] T.length (fun g o i wr=>∃(q:Nat) (h':Hd) (O:List Tk) (sn':List Bool),q<=T.length/\g=T.length-q/\o=.slice h'.ao O.length h'.cap/\i=.int .i64 q/\(O.length+2000*aO sn'<=out.length+q+2000*U1/\aO sn'<=U1/\sn'.length=fs.length)/\Hid (b9 (dy fs n) fs (T.drop q) sn' O=R)/\Hid (Fo w wr gf cap fs gs sn' h h' O gT capT T))
  case atStart=>exact⟨0,h,out,sn.set k true,by omega,rfl,rfl,rfl,⟨by rw[HU1.out];omega,by rw[HU1.out];omega,hl1⟩,by show _=_;rw[List.drop_zero];exact HR.out.symm,HS0⟩
  case round =>
   obtain⟨q,h',O,sn',hq,hg,rfl,rfl,⟨z1,z2,z3⟩,HE,HS⟩:=hrel;obtain⟨U2,HU2⟩:∃U2,Hid (aO sn'=U2):=⟨_,rfl⟩
   rw[HU2.out]at z1 z2
   by_cases hlt:q<T.length
   ·have hqi:(q:Int)<(T.length:Int):=by omega
    obtain⟨c0,c1,c2,c3,c4⟩:=nW HS.out.t rfl q T[q] (List.getElem?_eq_getElem hlt);have HD:=(show Hid _ from List.drop_eq_getElem_cons hlt);have HNX:Hid ((T[q].s.toList == [])=false->q+1<T.length):=fun he=>sg.next HTE.out q _ (List.getElem?_eq_getElem hlt) he
    rw[HD.out]at HE;obtain⟨bw,HBW⟩:∃bw,Hid (cI O=bw):=⟨_,rfl⟩
    have HBT:=(show Hid _ from wP O h'.ao h'.cap wr (by omega) HS.out.i.own.src);rw[HBW.out]at HBT;have hgr:gT<wr.heap.size:=HS.out.t.lt rfl;generalize T[q]=t at *;obtain⟨ts,tr,tf,tl,tc⟩:=t;simp only at c0 c1 c2 c3 c4 HNX
    go_upto_region 8 with (go_at_call 117;refine Calls.mono HBT.out ?_;rintro e w4 ⟨rfl,hw4⟩;rw[hw4];clear hw4)
    clear HBT
    go_cut [47] from 34 to 47 (fun s47 wd=>s47=.bool ((tr==0)&&(ts.toList == []))/\wd=wr)
    case first =>
     cases hr:(tr==0)
     ·go_wp2_with fail
      go_meet
      case rel=>exact⟨by rw[hr];rfl,rfl⟩
     ·cases he:(ts.toList == [])
      ·go_wp2_with fail
       go_meet
       case rel=>exact⟨by rw[hr,he];rfl,rfl⟩
      ·go_wp2_with fail
       go_meet
       case rel=>exact⟨by rw[hr,he];rfl,rfl⟩
    case rest =>
     obtain⟨rfl,hwc⟩:=hcut;subst hwc
     cases hA:((tr==0)&&(ts.toList == []))
     ·cases hi:(ts.toList == [36,91])
      ·have HN:Hid (b9 (dy fs n) fs (T.drop (q+1)) sn' (O++[⟨ts,tr,tf,tl,tc⟩])=R):=by show _=_;rw[<-HE.out];exact(Bn hA hi).symm
       go_wp2_with (at_builtin;refine bQ _ rfl (.tmp 66) (.tmp 71) rfl h' O ⟨ts,tr,tf,tl,tc⟩ rfl HS.out.i.own (by omega) rfl ?_;intro h5 w5 hw5 hg5;have HM:=(show Hid _ from HS.out.grew hg5 hw5);clear hw5 hg5)
       go_roundg (T.length-(q+1))
       case measure=>omega
       case rel=>exact⟨q+1,h5,O++[⟨ts,tr,tf,tl,tc⟩],sn',by omega,rfl,by simp,by go_num,⟨by rw[HU2.out];simp;omega,by rw[HU2.out];exact z2,z3⟩,HN,HM⟩
      ·cases bw
       ·have HN:Hid (R=(O++[oK ⟨ts,tr,tf,tl,tc⟩ 4],sn')):=by show _=_;rw[<-HE.out];exact EC hA hi HBW.out
        have hno:(O++[oK ⟨ts,tr,tf,tl,tc⟩ 4]).length+2000*aO sn'<=out.length+2000*aO sn:=by rw[HU2.out,HU.out];simp;omega
        have hno2:aO sn'<=aO sn:=by rw[HU2.out,HU.out];omega
        go_wp2_with (at_builtin;refine bQ _ rfl (.tmp 75) (.tmp 82) rfl h' O (oK ⟨ts,tr,tf,tl,tc⟩ 4) rfl HS.out.i.own (by omega) rfl ?_;intro h5 w5 hw5 hg5;have HM:=(show Hid _ from HS.out.grew hg5 hw5);clear hw5 hg5);go_ret;exact mS HM.out HN.out (by omega) hno hno2 (by simp)
       ·have he:(ts.toList == [])=false:=by
         have e:ts.toList=[36,91]:=by simpa using hi
         rw[e];rfl
        have hq1:=HNX.out he;obtain⟨d0,d1,d2,d3,d4⟩:=nW HS.out.t rfl (q+1) T[q+1] (List.getElem?_eq_getElem hq1);have HD1:=(show Hid _ from List.drop_eq_getElem_cons hq1);rw[HD1.out]at HE;have hsa:=HTS.out T[q+1] (List.getElem_mem hq1);have HNX2:Hid ((T[q+1].s.toList == [])=false->q+1+1<T.length):=fun he=>sg.next HTE.out (q+1) _ (List.getElem?_eq_getElem hq1) he
        have HA1:Hid (T[q+1]?=some T[q+1]):=List.getElem?_eq_getElem hq1;generalize T[q+1]=a at *;obtain⟨xs,ar,af,al,ac⟩:=a;simp only at d0 d1 d2 d3 d4 HNX2 hsa;have hq1i:(q:Int)+1<(T.length:Int):=by omega
        obtain⟨r1,Hr1⟩:∃r1,Hid (cN fs xs ar=r1):=⟨_,rfl⟩
        have HNM:=(show Hid _ from A8 fs (some ⟨gf,0,none⟩) cap xs af ar al ac _ (by omega) HS.out.i.src (by omega));rw[Hr1.out]at HNM
        go_upto_region 17 with (go_at_call 118;refine Calls.mono HNM.out ?_;rintro e w5 ⟨rfl,k5⟩)
        obtain⟨W5,HW5⟩:∃W5,Hid (w5.alloc (.cells #[.string ⟨#[]⟩,.int .i64 r1,.string af,.int .i64 al,.int .i64 ac] 138)=W5):=⟨_,rfl⟩
        have BW5:W5.heap[w5.heap.size]?=some (.cells #[.string ⟨#[]⟩,.int .i64 r1,.string af,.int .i64 al,.int .i64 ac] 138 (0,0)):=by rw[<-HW5.out];exact heap_alloc_new _ _
        have K5:=k5.trans (show ab [] w5 W5 by rw[<-HW5.out];exact(ab.refl [] _).alloc _);have HS5:=(show Hid _ from HS.out.still K5);have hy5:=ae BW5;have hz5:=k5.size;rw[HW5.out];clear c0 c1 c2 c3 c4 d0 d1 d2 d3 d4 HW5 HNM k5;have p0:W5.cell? ⟨w5.heap.size,0,none⟩=some (.string ⟨#[]⟩):=by rw[aa BW5];rfl
        have p1:W5.cell? ⟨w5.heap.size,1,none⟩=some (.int .i64 r1):=by rw[aa BW5];rfl
        have p2:W5.cell? ⟨w5.heap.size,2,none⟩=some (.string af):=by rw[aa BW5];rfl
        have p3:W5.cell? ⟨w5.heap.size,3,none⟩=some (.int .i64 al):=by rw[aa BW5];rfl
        have p4:W5.cell? ⟨w5.heap.size,4,none⟩=some (.int .i64 ac):=by rw[aa BW5];rfl
        cases h1:(r1==0)
        ·have HN:Hid (R=(O++[oK ⟨xs,ar,af,al,ac⟩ r1],sn')):=by show _=_;rw[<-HE.out,zs hA hi HBW.out (by show(cN fs xs ar==0)=false;rw[Hr1.out];exact h1)];simp only;rw[Hr1.out]
         have hno:(O++[oK ⟨xs,ar,af,al,ac⟩ r1]).length+2000*aO sn'<=out.length+2000*aO sn:=by rw[HU2.out,HU.out];simp;omega
         have hno2:aO sn'<=aO sn:=by rw[HU2.out,HU.out];omega
         go_wp2_with (at_builtin;refine bQ _ rfl (.tmp 103) (.tmp 105) rfl h' O (oK ⟨xs,ar,af,al,ac⟩ r1) rfl HS5.out.i.own (by omega) rfl ?_;intro h5 w8 hw5 hg5;have HM:=(show Hid _ from HS5.out.grew hg5 hw5);clear hw5 hg5);go_ret;exact mS HM.out HN.out (by omega) hno hno2 (by simp)
        ·have hr1:r1=0:=by simpa using h1
         subst hr1;clear h1;have HNZ:Hid ((cN fs xs ar==0)=true):=by show _=_;rw[Hr1.out];rfl
         obtain⟨hse,hf0⟩:=Ba HNZ.out;have hq2:q+2<T.length:=HNX2.out hse;obtain⟨d0,d1,d2,d3,d4⟩:=nW HS5.out.t rfl (q+2) T[q+2] (List.getElem?_eq_getElem hq2);have HD2:Hid (T.drop (q+1+1)=T[q+2] :: T.drop (q+3)):=List.drop_eq_getElem_cons hq2;rw[HD2.out]at HE;generalize T[q+2]=b at *;obtain⟨bs,br,bf,bl,bc⟩:=b;simp only at d0 d1 d2 d3 d4;have hq2i:(q:Int)+2<(T.length:Int):=by omega
         obtain⟨r2,Hr2⟩:∃r2,Hid (dh bs br=r2):=⟨_,rfl⟩
         have HCL:=(show Hid _ from yj bs bf br bl bc W5);rw[Hr2.out]at HCL;have HI2:=(show Hid _ from EB (rec:=dy fs n) (fs:=fs) (r:=T.drop (q+3)) (sn:=sn') (t:=⟨ts,tr,tf,tl,tc⟩) (a:=⟨xs,ar,af,al,ac⟩) (b:=⟨bs,br,bf,bl,bc⟩) hA hi HBW.out HNZ.out);rw[HE.out]at HI2;simp only at HI2;rw[Hr2.out]at HI2
         go_upto_region 19 with (go_at_call 119;refine Calls.mono HCL.out ?_;rintro e w6 ⟨rfl,k6⟩;have BW6:=k6.get BW5 (by simp);have f0:=ak BW6 0;have f1:=ak BW6 1;have f2:=ak BW6 2;have f3:=ak BW6 3;have f4:=ak BW6 4;have o0:=aa BW6 0;have o1:=aa BW6 1;have o2:=aa BW6 2;have o3:=aa BW6 3;have o4:=aa BW6 4;have hy6:=ae BW6)
         obtain⟨W6,HW6⟩:∃W6,Hid (((((w6.setCell ⟨w5.heap.size,0,none⟩ (.string ⟨#[]⟩)).setCell ⟨w5.heap.size,1,none⟩ (.int .i64 r2)).setCell ⟨w5.heap.size,2,none⟩ (.string bf)).setCell ⟨w5.heap.size,3,none⟩ (.int .i64 bl)).setCell ⟨w5.heap.size,4,none⟩ (.int .i64 bc)=W6):=⟨_,rfl⟩
         have K6:=(show Hid (ab [] _ W6) by rw[<-HW6.out];exact(((((K5.trans k6).setCell (Or.inr (by exact hz5)) _).setCell (Or.inr (by exact hz5)) _).setCell (Or.inr (by exact hz5)) _).setCell (Or.inr (by exact hz5)) _).setCell (Or.inr (by exact hz5)) _);have HS6:=(show Hid _ from HS.out.still K6.out)
         have BX:W6.heap[w5.heap.size]?=some (.cells #[.string ⟨#[]⟩,.int .i64 r2,.string bf,.int .i64 bl,.int .i64 bc] 138 (0,0)):=by
          rw[<-HW6.out,ah (ah (ah (ah (ah BW6 0 _) 1 _) 2 _) 3 _) 4 _];rfl
         rw[HW6.out];clear p0 p1 p2 p3 p4 d0 d1 d2 d3 d4 f0 f1 f2 f3 f4 o0 o1 o2 o3 o4 HCL HW6 BW5 BW6 K6 k6 K5;have p0:W6.cell? ⟨w5.heap.size,0,none⟩=some (.string ⟨#[]⟩):=by rw[aa BX];rfl
         have p1:W6.cell? ⟨w5.heap.size,1,none⟩=some (.int .i64 r2):=by rw[aa BX];rfl
         have p2:W6.cell? ⟨w5.heap.size,2,none⟩=some (.string bf):=by rw[aa BX];rfl
         have p3:W6.cell? ⟨w5.heap.size,3,none⟩=some (.int .i64 bl):=by rw[aa BX];rfl
         have p4:W6.cell? ⟨w5.heap.size,4,none⟩=some (.int .i64 bc):=by rw[aa BX];rfl
         have hyX:=ae BX
         cases h2:(r2==0)
         ·have HN:Hid (R=(O++[oK ⟨bs,br,bf,bl,bc⟩ r2],sn')):=by show _=_;rw[HI2.out,if_pos h2]
          have hno:(O++[oK ⟨bs,br,bf,bl,bc⟩ r2]).length+2000*aO sn'<=out.length+2000*aO sn:=by rw[HU2.out,HU.out];simp;omega
          have hno2:aO sn'<=aO sn:=by rw[HU2.out,HU.out];omega
          go_wp2_with (at_builtin;refine bQ _ rfl (.tmp 103) (.tmp 105) rfl h' O (oK ⟨bs,br,bf,bl,bc⟩ r2) rfl HS6.out.i.own (by omega) rfl ?_;intro h5 w8 hw5 hg5;have HM:=(show Hid _ from HS6.out.grew hg5 hw5);clear hw5 hg5);go_ret;exact mS HM.out HN.out (by omega) hno hno2 (by simp)
         ·have hr2:r2=0:=by simpa using h2
          subst hr2;clear h2;rw[if_neg (by simp)]at HI2;obtain⟨jn,hjn⟩:∃jn:Nat,bu fs xs=(jn:Int):=⟨(bu fs xs).toNat,by omega⟩
          have hjl:jn<fs.length:=by have:=IR hf0;omega
          have hji:(jn:Int)<(fs.length:Int):=by omega
          have hji0:(0:Int)<=(jn:Int):=by omega
          have HFD:=(show Hid _ from kT fs (some ⟨gf,0,none⟩) cap xs W6 (by omega) HS6.out.i.src);rw[hjn]at HFD HI2;rw[Int.toNat_natCast]at HI2;obtain⟨e0,-⟩:=nW HS6.out.t rfl (q+1) _ HA1.out;simp only at e0;obtain⟨bj,hbj⟩:∃bj,sn'[jn]?=some bj:=⟨_,List.getElem?_eq_getElem (by omega)⟩
          have sj:=HS6.out.i.seen.cell jn bj hbj;have hgd:sn'.getD jn true=bj:=by rw[List.getD_eq_getElem?_getD,hbj];rfl
          rw[hgd]at HI2;have hg6:=ae HS6.out.i.seen;have hgT6:gT<W6.heap.size:=HS6.out.t.lt rfl;clear hjn hf0
          cases bj
          ·rw[if_neg (by simp)]at HI2
           have HREC:=(show Hid _ from HIH.out jn sn' O h' gs scap W6 (by rw[HU2.out];omega) z3 hsc hjl hbj (by rw[HU2.out];omega) HS6.out.i);obtain⟨R7,HR7⟩:∃R7,Hid (dy fs n jn sn' O=R7):=⟨_,rfl⟩
           rw[HR7.out]at HREC HI2;obtain⟨O7,sn7⟩:=R7
           go_upto_region 24 with (first | (go_at_call 35;refine Calls.mono HFD.out ?_;rintro e w9 ⟨rfl,hw9⟩;rw[hw9];clear hw9) | (go_at_call 82;refine Calls.mono HREC.out ?_;rintro e w7 ⟨h7,rfl,o7,s7,r7,l7,n7,u7⟩;have HS7:=(show Hid _ from HS6.out.turn r7 o7 s7)))
           clear p0 p1 p2 p3 p4 e0 sj HREC HFD BX;have l7:sn7.length=sn'.length:=l7;have n7:O7.length+2000*aO sn7<=O.length+2000*aO sn':=n7;have u7:aO sn7<=aO sn':=u7;obtain⟨bk,HBK⟩:∃bk,Hid (dJ O7=bk):=⟨_,rfl⟩
           have hO7:O7.length<=100000:=by rw[HU2.out]at n7;omega
           have HBR:=(show Hid _ from rH O7 h7.ao h7.cap w7 hO7 o7.src);rw[HBK.out]at HBR HI2;rw[HU2.out]at n7 u7;clear o7 s7 r7
           cases bk
           ·have HN:Hid (b9 (dy fs n) fs (T.drop (q+3)) sn7 O7=R):=by show _=_;rw[HI2.out,if_neg (by simp)]
            go_wp2_with (go_at_call 83;refine Calls.mono HBR.out ?_;rintro e w9 ⟨rfl,hw9⟩;rw[hw9];clear hw9)
            go_roundg (T.length-(q+3))
            case measure=>omega
            case rel=>exact⟨q+3,h7,O7,sn7,by omega,rfl,rfl,by go_num,⟨by omega,by omega,by omega⟩,HN,HS7⟩
           ·have HN:Hid (R=(O7,sn7)):=by show _=_;rw[HI2.out,if_pos rfl]
            have hno:O7.length+2000*aO sn7<=out.length+2000*aO sn:=by rw[HU.out];omega
            have hno2:aO sn7<=aO sn:=by rw[HU.out];omega
            go_wp2_with (go_at_call 83;refine Calls.mono HBR.out ?_;rintro e w9 ⟨rfl,hw9⟩;rw[hw9];clear hw9);go_ret;exact mS HS7.out HN.out (by omega) hno hno2 rfl
          ·rw[if_pos rfl]at HI2
           go_wp2_with (go_at_call 35;refine Calls.mono HFD.out ?_;rintro e w9 ⟨rfl,hw9⟩;rw[hw9];clear hw9)
           go_roundg (T.length-(q+3))
           case measure=>omega
           case rel=>exact⟨q+3,h',O,sn',by omega,rfl,rfl,by go_num,⟨by rw[HU2.out];omega,by rw[HU2.out];exact z2,z3⟩,HI2.out.symm,HS6⟩
     ·cases bw
      ·have HN:Hid (R=(O++[oK ⟨ts,tr,tf,tl,tc⟩ 7],sn')):=by show _=_;rw[<-HE.out];exact by rw[v8 hA,if_neg (by rw[HBW.out];simp)]
       have hno:(O++[oK ⟨ts,tr,tf,tl,tc⟩ 7]).length+2000*aO sn'<=out.length+2000*aO sn:=by rw[HU2.out,HU.out];simp;omega
       have hno2:aO sn'<=aO sn:=by rw[HU2.out,HU.out];omega
       go_wp2_with (at_builtin;refine bQ _ rfl (.tmp 50) (.tmp 57) rfl h' O (oK ⟨ts,tr,tf,tl,tc⟩ 7) rfl HS.out.i.own (by omega) rfl ?_;intro h5 w5 hw5 hg5;have HM:=(show Hid _ from HS.out.grew hg5 hw5);clear hw5 hg5);go_ret;exact mS HM.out HN.out (by omega) hno hno2 (by simp)
      ·have HN:Hid (R=(O,sn')):=by show _=_;rw[<-HE.out,v8 hA,if_pos HBW.out]
       have hno:O.length+2000*aO sn'<=out.length+2000*aO sn:=by rw[HU2.out,HU.out];omega
       have hno2:aO sn'<=aO sn:=by rw[HU2.out,HU.out];omega
       go_wp2;go_ret;exact mS HS.out HN.out (by omega) hno hno2 rfl
   ·have e:q=T.length:=by omega
    subst e;have HN:Hid (R=(O,sn')):=by show _=_;rw[<-HE.out,List.drop_length,b9]
    have hno:O.length+2000*aO sn'<=out.length+2000*aO sn:=by rw[HU2.out,HU.out];omega
    have hno2:aO sn'<=aO sn:=by rw[HU2.out,HU.out];omega
    go_wp2;go_ret;exact mS HS.out HN.out (by omega) hno hno2 rfl
end Go.Proofs.YtpddjjabfbfifaaGreat

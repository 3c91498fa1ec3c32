import Derived.Deep.RegionHeld3
import Derived.Laws.OwnMore
import Derived.Test.YtlbhbocbakijbaaGreatG20
namespace Go.Proofs.YtlbhbocbakijbaaGreat
open Go.RowKit
set_option maxHeartbeats 0
structure dO(w w':World)(h h':Hd):Prop where
 kept:aa h.blk.toList w w'
 blk:h'.blk=h.blk∨∃g,h'.blk=some g/\w.heap.size<=g
theorem mA{h:Hd}{k:Nat}(hk:k∈h.blk.toList):h.blk=some k:=by
 cases e:h.blk with
 | none=>rw[e]at hk;simp at hk
 | some y=>rw[e]at hk;simp at hk;rw[hk]
theorem dO.still{w w':World}{h:Hd}(k:aa [] w w'):dO w w' h h:=⟨k.mono (by simp),Or.inl rfl⟩
theorem dO.trans{w w1 w2:World}{h h1 h2:Hd}(a:dO w w1 h h1)(b:dO w1 w2 h1 h2):dO w w2 h h2:=by
 refine⟨⟨b.kept.os.trans a.kept.os,b.kept.tape.trans a.kept.tape,b.kept.output.trans a.kept.output,Nat.le_trans a.kept.size b.kept.size,fun k hk hn=>?_⟩,?_⟩
 ·rw[b.kept.block k (Nat.lt_of_lt_of_le hk a.kept.size) (fun hq=>?_),a.kept.block k hk hn]
  have e:=mA hq
  rcases a.blk with e2 | ⟨g,e2,hg⟩
  ·exact hn (by rw[<-e2,e];simp)
  ·rw[e2]at e;cases e;omega
 ·rcases b.blk with e | ⟨g,e,hg⟩
  ·rcases a.blk with e2 | ⟨g,e2,hg⟩
   ·exact Or.inl (e.trans e2)
   ·exact Or.inr ⟨g,e.trans e2,hg⟩
  ·exact Or.inr ⟨g,e,Nat.le_trans a.kept.size hg⟩
theorem dO.made{w w':World}{h:Hd}{g c:Nat}(hg:w.grownBy w' h.blk)(hf:h.blk=some g∨w.heap.size<=g):dO w w' h ⟨some ⟨g,0,none⟩,c⟩ :=
 ⟨⟨hg.os,hg.tape,hg.output,hg.size,fun k hk hn=>hg.block k hk (fun e=>hn (by rw[<-e];simp))⟩,by
  rcases hf with e | e
  ·exact Or.inl e.symm
  ·exact Or.inr ⟨g,rfl,e⟩⟩
theorem au.still{w w':World}{h:Hd}{r:eI}(o:au w h r)(k:aa [] w w'):au w' h r:=o.moved (fun q hq=>k.block q (o.lt hq) (by simp))
structure qA(w wr:World)(h:Hd)(r:eI):Prop where
 own:au wr h r
 far:∀k,h.blk=some k->w.heap.size<=k
 kept:aa [] w wr
theorem qA.still{w wr wr':World}{h:Hd}{r:eI}(a:qA w wr h r)(k:aa [] wr wr'):qA w wr' h r:=⟨a.own.still k,a.far,a.kept.trans k⟩
theorem qA.grew{w wr wr':World}{h h':Hd}{r r':eI}(a:qA w wr h r)(g:dO wr wr' h h')(o:au wr' h' r'):qA w wr' h' r':=by
 refine⟨o,fun k hk=>?_,⟨g.kept.os.trans a.kept.os,g.kept.tape.trans a.kept.tape,g.kept.output.trans a.kept.output,Nat.le_trans a.kept.size g.kept.size,fun k hk _=>?_⟩⟩
 ·rcases g.blk with e | ⟨q,e,hq⟩
  ·exact a.far k (by rw[<-e];exact hk)
  ·rw[e]at hk;cases hk
   exact Nat.le_trans a.kept.size hq
 ·rw[g.kept.block k (Nat.lt_of_lt_of_le hk a.kept.size) (fun hq=>by have:=a.far _ (mA hq);omega),a.kept.block k hk (by simp)]
theorem qA.base{w w1 wr:World}{h:Hd}{r:eI}(a:qA w1 wr h r)(k:aa [] w w1):qA w wr h r:=⟨a.own,fun q hq=>Nat.le_trans k.size (a.far q hq),k.trans a.kept⟩
theorem dO.beside{w w':World}{h h':Hd}(g:dO w w' h h'){o:Hd}{r:eI}(ho:au w o r)(hne:∀k,o.blk=some k->h.blk≠some k):au w' o r :=
 ho.moved (fun q hq=>g.kept.block q (ho.lt hq) (fun hm=>hne q hq (mA hm)))
theorem nG{P:Program}(w:World){ops:Array Oper}{rest:List Oper}{o:Oper}{a:Act}{Q:Exit->Act->World->Prop}
  (hg:o.guard=none) (s x:Operand) (t:TypeId) (hop:o.op=Op.call { callee:=Callee.builtin Builtin.append,args:=#[s,x],argTypes:=#[t,t] })
  (i:TypeInfo) (z:Value) (bytes:Nat) (h:Hd) (r:eI) (news:List Value) (h1:P.underlying t=some (.slice r.e)) (h2:P.info? r.e=some i) (h3:i.zero=some z) (h4:i.size=r.size) (h5:i.bytes=bytes) (h6:z.cells.size=r.size) (h7:0<r.size)
  (hs:a.eval s=.slice h.ao r.n h.cap) (hown:au w h r) (hL:r.n<=1000000) (hb:bytes<=1000) (hx:a.eval x=.slice (some ⟨w.heap.size,0,none⟩) 1 1) (hn:news.length=r.size) (h1c:∀u∈news,u.oneCell'=true)
  (hK:∀h' w',au w' h' ⟨r.e,r.size,r.n+1,r.xs++news⟩->dO w w' h h'->wpList P ops Q rest (a.put o.dst (.slice h'.ao (r.n+1) h'.cap)) w') :
  wpList P ops Q (o :: rest) a (w.alloc (.cells news.toArray r.e)):=by
 have k1:aa [] w (w.alloc (.cells news.toArray r.e)):=(aa.refl [] _).alloc _;have hk:(w.alloc (.cells news.toArray r.e)).heap[w.heap.size]?=some (.cells news.toArray r.e (0,0)):=heap_alloc_new _ _;refine ay _ hg s x t hop i z bytes h r h1 h2 h3 h4 h5 h6 h7 hs (hown.still k1) ⟨w.heap.size,0,none⟩ 1 1 news hx (by omega) ?_ h1c Nat.one_pos (by unfold maxLen;omega) (Nat.le_trans (Nat.mul_le_mul (show r.n+1<=1000001 by omega) hb) (by omega)) ?_
 ·intro j u hj
  rw[aV,ab hk];simpa using hj
 ·intro g5 cap5 w5 hw5 hgr5 hf5
  exact hK ⟨some ⟨g5,0,none⟩,cap5⟩ w5 hw5 ((dO.still k1).trans (dO.made hgr5 hf5))
theorem qA.two{w wr w':World}{h1 h1' h2:Hd}{r1 r1' r2:eI}(a:qA w wr h1 r1)(b:qA w wr h2 r2)(ap:∀k,h1.blk=some k->h2.blk≠some k)(g:dO wr w' h1 h1')(o:au w' h1' r1'):qA w w' h1' r1'/\qA w w' h2 r2/\∀k,h1'.blk=some k->h2.blk≠some k:=by
 have n1:=a.grew g o;refine⟨n1,⟨g.beside b.own (fun k hk hq=>ap k hq hk),b.far,n1.kept⟩,fun k hk hq=>?_⟩
 rcases g.blk with e | ⟨q,e,hl⟩
 ·exact ap k (by rw[<-e];exact hk) hq
 ·have:=b.own.lt hq
  rw[hk]at e
  cases e
  omega
def jd(w:World)(g:Nat)(sn:List Bool):Prop:=w.heap[g]?=some (.cells (sn.map Value.bool).toArray 4 (0,0))
theorem jd.cell{w:World}{g:Nat}{sn:List Bool}(h:jd w g sn)(k:Nat)(b:Bool)(hb:sn[k]?=some b):w.cell? ⟨g,k,none⟩=some (.bool b):=by
 rw[ab h];simp[hb]
theorem jd.kept{w w':World}{g:Nat}{sn:List Bool}{S:List Nat}(h:jd w g sn)(k:aa S w w')(hg:g∉S):jd w' g sn:=k.get h hg
theorem jd.set{w:World}{g:Nat}{sn:List Bool}(h:jd w g sn)(k:Nat):jd (w.setCell ⟨g,k,none⟩ (.bool true)) g (sn.set k true):=by
 unfold jd;rw[ae h];simp[List.map_set]
theorem Fk:(Tryz.prog.info? 4).map (fun i=>(i.zero,i.size,i.bytes))=some (some (.bool false),1,1):=by kernel_rfl
theorem wC(n:Nat):madeCells (Value.bool false).cells (n*1)=((List.replicate n false).map Value.bool).toArray:=by
 rw[Nat.mul_one]
 apply Array.ext
 ·rw[size_madeCells];simp
 ·intro i h1 h2
  have e:(Value.bool false).cells=#[.bool false]:=rfl;simp[madeCells,e,Nat.mod_one]
theorem nM(p:Nat->Bool)(k:Nat):(List.range (k+1)).filter p=(List.range k).filter p++(if p k=true then [k] else []):=by
 rw[List.range_succ,List.filter_append]
 congr 1
 cases h:p k
 ·rw[List.filter_cons_of_neg (by rw[h];simp)];rfl
 ·rw[List.filter_cons_of_pos h];rfl
def FN(bo:Option Nat):Option Addr:=bo.map (fun b=>⟨b,0,none⟩)
structure qC(w:World)(bo:Option Nat)(L:List ByteArray):Prop where
 nil:bo=none ↔ L=[]
 blk:∀b,bo=some b->w.heap[b]?=some (.cells (strs L).toArray 9 (0,0))
theorem au.putAt{w:World}{h:Hd}{r:eI}(o:au w h r){g:Nat}(hg:h.ao=some ⟨g,0,none⟩)(j:Nat)(v:Value):au (w.setCell ⟨g,j,none⟩ v) h ⟨r.e,r.size,r.n,r.xs.set j v⟩:=by
 refine⟨by rw[List.length_set];exact o.1,?_⟩
 rcases o.2 with ⟨hv,hn⟩ | ⟨g',cap,cur,hv,hb,hh,h1,h2,h3,h4⟩
 ·injection hv with a1
  rw[a1]at hg;cases hg
 ·injection hv with a1 a2 a3
  rw[a1]at hg
  cases hg
  refine Or.inr ⟨g,cap,cur.setIfInBounds j v,by rw[a1,a3],hb,by rw[ae hh],h1,h2,by rw[Array.size_setIfInBounds];exact h3,?_⟩;rw[Array.toList_setIfInBounds]
  show(cur.toList.set j v).take (r.n*r.size)=r.xs.set j v
  rw[<-h4,List.take_set]
def eS(l:List St)(n:Nat):ByteArray:=(l.getD n dD).label
structure GP where
 W:List ByteArray
 sp:List (Nat×Nat)
 th:List Nat
def oz(b x:Nat)(T:ByteArray)(o:Option Nat)(fs':Fs)(r ln cl:Int)(l:List St)(w:World)(e:Ending)(w':World):Prop :=
 ∃o',e=.returned (if(r==0)=true then g9 (dn o' (eY l).length) 0 ⟨#[]⟩ 0 0 0 else g9 (.slice none 0 0) r ⟨#[109]⟩ ln cl 6)/\((r==0)=true->dG w' o' (eY l))/\(∀g,o'=some g->w.heap.size<=g)/\ba w' b x T o/\bY w' x fs'/\aa [x] w w'
theorem By{b x:Nat}{T:ByteArray}{o:Option Nat}{fs':Fs}{r ln cl:Int}{l:List St}{w w':World}(hr:(r==0)=false)(hW:ba w' b x T o)(hF:bY w' x fs')(hK:aa [x] w w') :
  oz b x T o fs' r ln cl l w (.returned (g9 (.slice none 0 0) r ⟨#[109]⟩ ln cl 6)) w':=by
 refine⟨none,?_,fun h=>?_,fun g h=>(by cases h),hW,hF,hK⟩
 ·rw[if_neg (by rw[hr];simp)]
 ·rw[hr]at h;cases h
theorem yT{b x:Nat}{T:ByteArray}{o ob:Option Nat}{fs':Fs}{r ln cl:Int}{l:List St}{w w':World}{rv:Value}(hr:(r==0)=true)(hv:dn ob (eY l).length=rv)(hR:dG w' ob (eY l))(hg:∀g,ob=some g->w.heap.size<=g)(hW:ba w' b x T o)(hF:bY w' x fs')(hK:aa [x] w w') :
  oz b x T o fs' r ln cl l w (.returned (g9 rv 0 ⟨#[]⟩ 0 0 0)) w':=by
 refine⟨ob,?_,fun _=>hR,hg,hW,hF,hK⟩;rw[if_pos hr,hv]
def Bf(w w':World)(x:Nat)(fs':Fs)(l:List St):Prop:=∃H g,dP w' x fs' l H g/\w.heap.size<=g/\∀k,cK H k->w.heap.size<=k
def yJ(b x:Nat)(T:ByteArray)(o:Option Nat)(fs':Fs)(r ln cl:Int)(l:List St)(w:World)(e:Ending)(w':World):Prop :=
  oz b x T o fs' r ln cl l w e w'/\((r==0)=true->Bf w w' x fs' l)
set_option maxRecDepth 100000 in
theorem Ag(b x:Nat)(T t:ByteArray)(o:Option Nat)(fs fs':Fs)(r ln cl:Int)(l:List St)(w:World)(hW:ba w b x T o)(hV:bY w x fs)(hx:x≠b)(ht:¬1024<t.size)(hp:g7 fs ⟨#[109]⟩ t=(0,fs'))(hlen:l.length<=10000)
    (VF:∀w',bY w' x fs'->Calls Tryz.prog 13 #[.pointer (some ⟨x,0,none⟩),.string ⟨#[109]⟩] w' fun e w'' =>
      (if(r==0)=true then e=.returned (.tuple #[.agg #[.int .i64 0,.string ⟨#[]⟩,.int .i64 0,.int .i64 0],.int .i64 0])/\∃H g,dP w'' x fs' l H g/\w'.heap.size<=g/\∀k,cK H k->w'.heap.size<=k
       else e=.returned (.tuple #[.agg #[.int .i64 r,.string ⟨#[109]⟩,.int .i64 ln,.int .i64 cl],.int .i64 6])/\fp w'' x fs')/\aa [x] w' w'') :
    Calls Tryz.prog 45 #[.pointer (some ⟨b,0,none⟩),.string t] w fun e w'=>yJ b x T o fs' r ln cl l w e w':=by
  have hbw:=hW.lt;have hxw:=hV.lt;obtain⟨c0,c1,-⟩:=hW.cells;obtain⟨W,hWW⟩:∃W,W=(w.alloc (.cells #[.slice none 0 0,.int .i64 0,.string ⟨#[]⟩,.int .i64 0,.int .i64 0,.int .i64 0] 102)).alloc (.cells #[.slice none 0 0,.int .i64 0,.string ⟨#[]⟩,.int .i64 0,.int .i64 0,.int .i64 0] 102):=⟨_,rfl⟩
  have hKW0:aa [] w W:=by rw[hWW];exact((aa.refl _ _).alloc _).alloc _
  have s0:W.heap[w.heap.size]?=some (.cells #[.slice none 0 0,.int .i64 0,.string ⟨#[]⟩,.int .i64 0,.int .i64 0,.int .i64 0] 102 (0,0)):=by
    rw[hWW];exact((aa.refl [] _).alloc _).get (heap_alloc_new _ _) (by simp)
  have s1:W.heap[w.heap.size+1]?=some (.cells #[.slice none 0 0,.int .i64 0,.string ⟨#[]⟩,.int .i64 0,.int .i64 0,.int .i64 0] 102 (0,0)):=by
    rw[hWW];have e:(w.alloc (.cells #[.slice none 0 0,.int .i64 0,.string ⟨#[]⟩,.int .i64 0,.int .i64 0,.int .i64 0] 102)).heap.size=w.heap.size+1:=by simp
    rw[<-e];exact heap_alloc_new _ _
  have HW:=(show Hid _ from hWW.symm);have PF:=qr x ⟨#[109]⟩ t fs W (hV.kept hKW0 (by simp)) (by simp[ByteArray.size]) (by omega);rw[hp]at PF;have HPF:=(show Hid _ from PF);have HVF:=(show Hid _ from VF);clear PF hWW hp VF;have hne1:w.heap.size≠x:=by omega
  have hne2:w.heap.size+1≠x:=by omega
  have hxx:x∉[w.heap.size,w.heap.size+1]:=by simp;omega
  have hbb:b∉[w.heap.size,w.heap.size+1]:=by simp;omega
  have hzz:=hW.rows.lt;have HGG:Hid (∀g,o=some g->g∉[w.heap.size,w.heap.size+1]):=fun g hg=>by have:=hzz g hg;simp;omega
  clear hzz;have hsn:=fun(wx:World)=>Lib.run_eql_slice_nil (P:=Tryz.prog) wx 32 53 none 0 0 0 0 Tryz.underlying32
  have HWk:Hid (ba W b x T o):=hW.still hKW0;clear hW;go_enter Tryz.func45,Tryz.ntmps45;go_wp2_with fail;rw[HW.out];refine Calls.mono HPF.out ?_;rintro e w2 ⟨rfl,-,hB2,hk2⟩;have hB2:=hB2 trivial;have s02:=hk2.get s0 (by simp;omega);have s12:=hk2.get s1 (by simp;omega);have HW2:Hid (ba w2 b x T o):=HWk.out.keptX hk2 hx;have hkx2:aa [x] w w2:=(hKW0.mono (by simp)).trans hk2;obtain⟨y0,y1,y2,y3,y4,y5⟩:=cY s02;obtain⟨z0,z1,z2,z3,z4,z5⟩:=cY s12;have f0:=an s02;have f1:=an s12;clear c0 c1;obtain⟨c0,c1,-⟩:=HW2.out.cells;have hbw2:=HW2.out.lt;have hs2:=hk2.size;have hWs:=ac s1;have B2':Hid (∀v,fp (w2.setCell ⟨w.heap.size+1,5,none⟩ v) x fs'):=fun v=>hB2.kept (S:=[w.heap.size,w.heap.size+1]) ((aa.refl _ _).setCell (Or.inl (by simp)) _) hxx
  go_wp2_with (go_at_call 14;refine(qs x fs' _ (by exact B2'.out _)).mono ?_;rintro e w9 ⟨rfl,rfl⟩);refine Calls.mono (HVF.out _ (by exact(B2'.out _).anyR)) ?_;rintro e w3 ⟨hcase,hk3⟩;have s03:=hk3.get ((Below.heap_setCell w2 ⟨w.heap.size+1,5,none⟩ (.int .i64 0) w.heap.size (by simp)).trans s02) (by simp;omega);have s13:w3.heap[w.heap.size+1]?=some (.cells #[.slice none 0 0,.int .i64 0,.string ⟨#[]⟩,.int .i64 0,.int .i64 0,.int .i64 0] 102 (0,0)):=hk3.get ((ae s12 5 (.int .i64 0)).trans (by simp)) (by simp;omega);have HW3:Hid (ba w3 b x T o):=(HW2.out.kept (S:=[w.heap.size,w.heap.size+1]) ((aa.refl _ _).setCell (Or.inl (by simp)) _) hbb HGG.out).keptX hk3 hx;have hkx:aa [x] w w3:=(hkx2.setCell (Or.inr (by simp)) _).trans hk3;have hz3:=ac s13;have hz3':=ac s03;have hb3:=HW3.out.lt;clear y0 y1 y2 y3 y4 y5 z0 z1 z2 z3 z4 z5 f0 f1 c0 c1 s02 s12 s0 s1 hkx2 hk2 hk3 B2' hB2;obtain⟨y0,y1,y2,y3,y4,y5⟩:=cY s03;obtain⟨z0,z1,z2,z3,z4,z5⟩:=cY s13;have f0:=an s03;have f1:=an s13;obtain⟨c0,c1,-⟩:=HW3.out.cells
  cases hr:(r==0)
  · simp only[hr,Bool.false_eq_true,if_false]at hcase
    obtain⟨rfl,hB3⟩:=hcase;have hr':(r != 0)=true:=by simp[bne,hr]
    have HB:Hid (∀a0 a1 a2 a3 a4 ob,fp ((((((w3.setCell ⟨w.heap.size+1,1,none⟩ a0).setCell ⟨w.heap.size+1,2,none⟩ a1).setCell ⟨w.heap.size+1,3,none⟩ a2).setCell ⟨w.heap.size+1,4,none⟩ a3).setCell ⟨w.heap.size+1,5,none⟩ a4).alloc ob) x fs'):=fun a0 a1 a2 a3 a4 ob=>hB3.kept (gI (aa.refl [w.heap.size,w.heap.size+1] w3) (Or.inl (by simp)) _ _ _ _ _ _) hxx
    go_wp2_with (go_at_call 14;refine(qs x fs' _ (by exact HB.out _ _ _ _ _ _)).mono ?_;rintro e w9 ⟨rfl,rfl⟩)
    go_region
    all_goals go_wp2
    all_goals
      refine bodyPost_ret (v:=g9 (.slice none 0 0) r ⟨#[109]⟩ ln cl 6) (by simp[results,Tryz.results45,go_sem,g9,hz3',y0,y1,y2,y3,y4,y5]) rfl ?_;refine⟨By hr ?_ ?_ ?_,fun h=>by rw[hr]at h;cases h⟩
      · exact HW3.out.kept (S:=[w.heap.size,w.heap.size+1]) (kJ (p:=w.heap.size) (q:=w.heap.size+1) (aa.refl _ _) (Or.inl (by simp)) (Or.inl (by simp)) _ _ _ _ _ _ _ _ _ _ _ _ _) hbb HGG.out
      · exact hB3.anyR.kept (S:=[w.heap.size,w.heap.size+1]) (kJ (p:=w.heap.size) (q:=w.heap.size+1) (aa.refl _ _) (Or.inl (by simp)) (Or.inl (by simp)) _ _ _ _ _ _ _ _ _ _ _ _ _) hxx
      · exact kJ (p:=w.heap.size) (q:=w.heap.size+1) hkx (Or.inr (Nat.le_refl _)) (Or.inr (by omega)) _ _ _ _ _ _ _ _ _ _ _ _ _
  · simp only[hr,if_true]at hcase
    obtain⟨rfl,H,g,hR3,hg3,hH3⟩:=hcase;simp only[World.size_setCell]at hg3 hH3;have hgn:g∉[w.heap.size,w.heap.size+1]:=by simp;omega
    have HHn:Hid (∀k,cK H k->k∉[w.heap.size,w.heap.size+1]):=fun k hk=>by have:=hH3 k hk;simp;omega
    have heq:=fun(wx:World)=>DP wx
    go_wp2_with fail;refine(rT x fs' l H g _ (by exact hR3.kept (gI (aa.refl [w.heap.size,w.heap.size+1] w3) (Or.inl (by simp)) _ _ _ _ _ _) hxx hgn HHn.out) hlen).mono ?_;rintro e w9 ⟨ob,rfl,hO9,hf9,hk9⟩;obtain⟨ao,n9,cp9,hrs⟩:=io ob (eY l).length;rw[hrs];have s19:=hk9.get (vT s13 _ _ _ _ _ _) (by simp);have s09:=hk9.get ((gI (aa.refl [w.heap.size+1] w3) (Or.inl (by simp)) _ _ _ _ _ _).get s03 (by simp)) (by simp);have K9:aa [x] w w9:=(gI hkx (Or.inr (by omega)) _ _ _ _ _ _).trans (hk9.mono (by simp));have HW9:Hid (ba w9 b x T o):=(HW3.out.kept (gI (aa.refl [w.heap.size,w.heap.size+1] w3) (Or.inl (by simp)) _ _ _ _ _ _) hbb HGG.out).still hk9;have HV9:Hid (bY w9 x fs'):=(hR3.anyR.kept (gI (aa.refl [w.heap.size,w.heap.size+1] w3) (Or.inl (by simp)) _ _ _ _ _ _) hxx).kept hk9 (by simp);have HO9:Hid (dG w9 ob (eY l)):=hO9;have HR9:Hid (dP w9 x fs' l H g):=(hR3.kept (gI (aa.refl [w.heap.size,w.heap.size+1] w3) (Or.inl (by simp)) _ _ _ _ _ _) hxx hgn HHn.out).still hk9;have HFR:Hid (w.heap.size<=g/\∀k,cK H k->w.heap.size<=k):=⟨by omega,fun k hk=>by have:=hH3 k hk;omega⟩;have HF9:Hid (∀g,ob=some g->w.heap.size+2<=g):=fun g hg=>by have:=hf9 g hg;simp at this;omega
    have HRS:=(show Hid _ from hrs);clear y0 y1 y2 y3 y4 y5 z0 z1 z2 z3 z4 z5 f0 f1 c0 c1 s03 s13 hkx hk9 hO9 hf9 hrs hR3;obtain⟨y0,y1,y2,y3,y4,y5⟩:=cY s09;obtain⟨z0,z1,z2,z3,z4,z5⟩:=cY s19;have f0:=an s09;have f1:=an s19;have hz9:=ac s19;have hz9':=ac s09;go_wp2_with fail
    go_region
    all_goals go_wp2
    all_goals
      refine bodyPost_ret (v:=g9 (.slice ao n9 cp9) 0 ⟨#[]⟩ 0 0 0) (by simp[results,Tryz.results45,go_sem,g9,y0,y1,y2,y3,y4,y5]) rfl ?_;refine⟨yT hr (ob:=ob) HRS.out ?_ (fun g hg=>by have:=HF9.out g hg;omega) ?_ ?_ ?_,fun _=>⟨H,g,HR9.out.kept (S:=[w.heap.size,w.heap.size+1]) (iE (p:=w.heap.size) (q:=w.heap.size+1) (aa.refl _ _) (Or.inl (by simp)) (Or.inl (by simp)) _ _ _ _ _ _ _) hxx hgn HHn.out,HFR.out⟩⟩
      · exact dG.kept HO9.out (S:=[w.heap.size,w.heap.size+1]) (iE (p:=w.heap.size) (q:=w.heap.size+1) (aa.refl _ _) (Or.inl (by simp)) (Or.inl (by simp)) _ _ _ _ _ _ _) (fun g hg=>by have:=HF9.out g hg;simp;omega)
      · exact HW9.out.kept (S:=[w.heap.size,w.heap.size+1]) (iE (p:=w.heap.size) (q:=w.heap.size+1) (aa.refl _ _) (Or.inl (by simp)) (Or.inl (by simp)) _ _ _ _ _ _ _) hbb HGG.out
      · exact HV9.out.kept (S:=[w.heap.size,w.heap.size+1]) (iE (p:=w.heap.size) (q:=w.heap.size+1) (aa.refl _ _) (Or.inl (by simp)) (Or.inl (by simp)) _ _ _ _ _ _ _) hxx
      · exact iE (p:=w.heap.size) (q:=w.heap.size+1) K9 (Or.inr (Nat.le_refl _)) (Or.inr (by omega)) _ _ _ _ _ _ _
def eL(w:World)(x n N:Nat)(t:ByteArray):Prop:=∃fs H g,dP w x fs (bC t).2.sts H g/\n<=g/\(∀k,cK H k->n<=k)/\Ds N fs
theorem eL.still{w w':World}{x n N:Nat}{t:ByteArray}(h:eL w x n N t)(k:aa [] w w'):eL w' x n N t:=by
 obtain⟨fs,H,g,h1,h2,h3,h4⟩:=h;exact⟨fs,H,g,h1.still k,h2,h3,h4⟩
theorem eL.keptB{w w':World}{x n N b:Nat}{t:ByteArray}(h:eL w x n N t)(k:aa [b] w w')(hx:x≠b)(hb:b<n):eL w' x n N t:=by
 obtain⟨fs,H,g,h1,h2,h3,h4⟩:=h;exact⟨fs,H,g,h1.kept k (by simpa using hx) (by simp;omega) (fun k hk=>by have:=h3 k hk;simp;omega),h2,h3,h4⟩
theorem eL.down{w:World}{x n m N:Nat}{t:ByteArray}(h:eL w x n N t)(hm:m<=n):eL w x m N t:=by
 obtain⟨fs,H,g,h1,h2,h3,h4⟩:=h;exact⟨fs,H,g,h1,by omega,fun k hk=>by have:=h3 k hk;omega,h4⟩
theorem qa{N:Nat}(hN:N<=3)(b x:Nat)(T t:ByteArray)(o:Option Nat)(fs:Fs)(w:World)(hW:ba w b x T o)(hV:bY w x fs)(hx:x≠b)(ht:¬1024<t.size)(hM:Ds N fs)(hni:fB t=false) :
  Calls Tryz.prog 45 #[.pointer (some ⟨b,0,none⟩),.string t] w fun e w'=>xK N b x T t o w e w'/\(((bC t).1.1==0)=true->eL w' x w.heap.size N t):=by
 obtain⟨k,fs',hp,hk,hk4,hf,hnm,hdt,hM'⟩:=Gb hN fs t hM ht;have HG:=iW t (by omega) hni;refine(Ag b x T t o fs fs' (bC t).1.1 (aD t (bC t).1.2) (bb t (bC t).1.2) (bC t).2.sts w hW hV hx ht hp HG.ok.len (fun w' h'=>Dm x k fs' t w' h' hf hk hk4 hnm hdt hM'.2 hni)).mono ?_;rintro e w' ⟨⟨o',he,hR,hg,hW',hV',hk'⟩,hrep⟩;refine⟨⟨o',?_,hR,hg,hW',⟨fs',hV',hM'⟩,hk'⟩,fun h=>?_⟩
 ·rw[he];rfl
 ·obtain⟨H,g,h1,h2,h3⟩:=hrep h
  exact⟨fs',H,g,h1,h2,h3,hM'⟩
set_option maxRecDepth 100000 in
theorem qU{N:Nat}(hN:N<=3)(b x:Nat)(T:ByteArray)(o:Option Nat)(fs:Fs)(w:World)(hW:ba w b x T o)(hV:bY w x fs)(hx:x≠b)(hM:Ds N fs)(hT:iq T) :
  Calls Tryz.prog 31 #[.pointer (some ⟨b,0,none⟩)] w fun e w'=>Ba N b x T o w e w'/\eL w' x w.heap.size N T:=by
 obtain⟨c0,c1,-⟩:=hW.cells;have hbw:=hW.lt;have SF:=qa hN b x T T o fs w hW hV hx (by have:=hT.size;omega) hM hT.inc;unfold xK at SF;have HSF:=(show Hid _ from SF);have hrr:=hT.zero;have hok:=hT.rws;clear SF;go_enter Tryz.func31,Tryz.ntmps31;go_wp2_with fail;refine Calls.mono HSF.out ?_;rintro e w2 ⟨⟨o',rfl,hR2,hg2,hW2,⟨fs',hV2,hM2⟩,hk2⟩,hRep⟩;have HRep:Hid (eL w2 x w.heap.size N T):=hRep hrr;clear hRep;have hR2:=hR2 hrr;unfold Fw;rw[if_pos hrr];have SR:=fun(w':World) (k:aa [] w2 w')=>ta o' o (bj T) w' (hR2.still k) (hW2.rows.still k) hok
 have hb2:=hW2.lt;obtain⟨d0,d1,d2⟩:=hW2.cells;obtain⟨ao1,n1,c1',hrs1⟩:=io o' (bj T).length;obtain⟨ao2,n2,c2',hrs2⟩:=io o (bj T).length;rw[hrs1,hrs2]at SR;rw[hrs2]at d2;rw[hrs1];have HSR:=(show Hid _ from SR);clear SR hrs1 hrs2 hok hR2 c0 c1;simp only[g9]
 go_upto_region 2 with fail
 obtain⟨W3,hW3⟩:∃W3,W3=w2.alloc (.cells #[.slice ao1 n1 c1',.int .i64 0,.string ⟨#[]⟩,.int .i64 0,.int .i64 0,.int .i64 0] 102):=⟨_,rfl⟩
 have k3:aa [] w2 W3:=by rw[hW3];exact(aa.refl [] _).alloc _
 have B3:W3.heap[w2.heap.size]?=some (.cells #[.slice ao1 n1 c1',.int .i64 0,.string ⟨#[]⟩,.int .i64 0,.int .i64 0,.int .i64 0] 102 (0,0)):=by rw[hW3];exact heap_alloc_new _ _
 rw[<-hW3];have s0:=(cY B3).1
 have e2:W3.cell? ⟨b,2,none⟩=some (.slice ao2 n2 c2'):=by
  have:=(hW2.still k3).cells.2.2;rw[World.cell?_of_block (k3.block b hb2 (by simp))];exact d2
 have hb3:b<W3.heap.size:=Nat.lt_of_lt_of_le hb2 k3.size;clear hW3 d0 d1 d2
 go_region_with (go_at_call 66;refine(HSR.out _ (by exact k3.trans (aa.refl [] W3).drew)).mono ?_;rintro e w4 ⟨rfl,k4⟩)
 all_goals
  have K4:aa [] w2 w4:=(k3.trans (aa.refl [] W3).drew).trans k4;have B4:=k4.get ((aa.refl [] W3).drew.get B3 (by simp)) (by simp);obtain⟨-,-,-,-,-,s5⟩:=cY B4;have HW4:=(show Hid _ from hW2.still K4);have hz4:=ac B4;clear s0 e2 B3;go_wp2;go_ret;exact⟨⟨rfl,HW4.out,⟨fs',hV2.kept K4 (by simp),hM2⟩,hk2.trans (K4.mono (by simp))⟩,eL.still HRep.out K4⟩
def vx(N b x:Nat)(w:World)(e:Ending)(w':World):Prop :=
 e=.returned (.bool true)/\(∃T' o',ba w' b x T' o'/\iq T'/\(bj T'=[]∨eL w' x (b+1) N T'))/\(∃fs',bY w' x fs'/\Ds N fs')/\aa [b,x] w w'
set_option maxRecDepth 100000 in
theorem vM{N:Nat}(hN:N<=3)(b x:Nat)(T c:ByteArray)(o:Option Nat)(fs:Fs)(w:World)(hW:ba w b x T o)(hV:bY w x fs)(hx:x≠b)(hM:Ds N fs)(hT:iq T)(hc:c.size<=1073741824)(hRp:Hid (bj T=[]∨eL w x (b+1) N T)) :
  Calls Tryz.prog 15 #[.pointer (some ⟨b,0,none⟩),.string c] w fun e w'=>vx N b x w e w':=by
 have hTs:=hT.size;have hbw:=hW.lt;have hxw:=hV.lt;obtain⟨c0,c1,-⟩:=hW.cells
 cases hh:fB c
 ·have hsz:(T++⟨#[10]⟩++c).size=T.size+1+c.size:=by simp only[ByteArray.size_append];rfl
  have HU:Hid (∀U,U=T++⟨#[10]⟩++c->U.size=T.size+1+c.size/\fB U=false/\((bC U).1.1≠0->aD T T.size+1<=aD U (bC U).1.2)/\∃m,bj U=bj T++m):=by
   intro U hUU;subst hUU;exact⟨hsz,we T c hT.inc hh,zB T c hT,Ac T c hT⟩
  clear hsz;go_enter Tryz.func15,Tryz.ntmps15;go_wp2_with (go_at_call 44;refine(pm _ _ (by omega)).mono ?_;rintro e w9 ⟨rfl,hw9⟩;rw[hw9]);obtain⟨U,hUU⟩:∃U,U=T++⟨#[10]⟩++c:=⟨_,rfl⟩
  rw[<-hUU];obtain⟨u1,u3,u4,m,u5⟩:=HU.out U hUU;clear hUU HU
  by_cases hl:1024<U.size
  ·refine(CV b x T U o fs _ hW hV hx hl (by omega)).mono ?_
   rintro e w2 ⟨rfl,hW2,hV2,hk2⟩;simp only[g9];have hb2:=hW2.lt;go_wp2_with fail;refine(qU hN b x T o fs _ (hW2.still ((aa.refl [] _).alloc _)) (hV2.kept ((aa.refl [] _).alloc _) (by simp)) hx hM hT).mono ?_;rintro e w3 ⟨⟨rfl,hW3,⟨fs3,hV3,hM3⟩,hk3⟩,hRep3⟩;go_wp2;go_ret;exact⟨rfl,⟨T,o,hW3,hT,Or.inr (hRep3.down (by simp;omega))⟩,⟨fs3,hV3,hM3⟩,((hk2.mono (by simp)).alloc _).trans (hk3.mono (by simp))⟩
  ·refine(qa hN b x T U o fs _ hW hV hx hl hM u3).mono ?_
   rintro e w2 ⟨⟨o',rfl,hR2,hg2,hW2,⟨fs2,hV2,hM2⟩,hk2⟩,hRep⟩;have HRep:=(show Hid _ from hRep);clear hRep;unfold Fw;have hb2:=hW2.lt;have FU:Hid (((bC U).1.1==0)=true->iq U):=fun h=>⟨by omega,by simpa using h,u3⟩
   obtain⟨r,HR⟩:∃r,Hid ((bC U).1.1=r):=⟨_,rfl⟩
   obtain⟨p,HP⟩:∃p,Hid ((bC U).1.2=p):=⟨_,rfl⟩
   rw[HR.out]at hR2 u4 FU HRep ⊢;rw[HP.out]at u4 ⊢
   cases hr:(r==0)
   ·simp only[Bool.false_eq_true,if_false,g9]
    have hl1:=ou T T.size;have hl2:=u4 (by simpa using hr);have hl3:=ou U p;clear u4 hR2 FU c0 c1;obtain⟨c0,c1,-⟩:=hW2.cells;go_wp2_with (go_at_call 47;refine(zv _ _ (by omega)).mono ?_;rintro e w9 ⟨rfl,hw9⟩;subst hw9);refine(qU hN b x T o fs2 _ (hW2.still ((aa.refl [] _).alloc _)) (hV2.kept ((aa.refl [] _).alloc _) (by simp)) hx hM2 hT).mono ?_;rintro e w3 ⟨⟨rfl,hW3,⟨fs3,hV3,hM3⟩,hk3⟩,hRep3⟩;go_wp2;go_ret;exact⟨rfl,⟨T,o,hW3,hT,Or.inr (hRep3.down (by simp;omega))⟩,⟨fs3,hV3,hM3⟩,((hk2.mono (by simp)).alloc _).trans (hk3.mono (by simp))⟩
   ·simp only[if_true]
    have hR2:=hR2 hr;have HF2:=(show Hid _ from FU.out hr);have BG:=fun(w':World) (k:aa [] w2 w')=>vF o o' (bj T) m w' (hW2.rows.still k) (by rw[<-u5];exact hR2.still k) (by rw[<-u5];exact HF2.out.rws)
    rw[<-u5]at BG;obtain⟨d0,d1,d2⟩:=hW2.cells;obtain⟨ao1,n1,c1',hrs1⟩:=io o' (bj U).length;obtain⟨ao2,n2,c2',hrs2⟩:=io o (bj T).length;rw[hrs1,hrs2]at BG;rw[hrs2]at d2;rw[hrs1];have HBG:=(show Hid _ from BG);have HRS1:=(show Hid _ from hrs1);have HR2:Hid (dG w2 o' (bj U)):=hR2;clear BG hrs1 hrs2 u5 hR2 u4 FU c0 c1 u3 hl;simp only[g9]
    go_upto_region 9 with fail
    obtain⟨W3,hW3⟩:∃W3,W3=w2.alloc (.cells #[.slice ao1 n1 c1',.int .i64 0,.string ⟨#[]⟩,.int .i64 0,.int .i64 0,.int .i64 0] 102):=⟨_,rfl⟩
    have k3:aa [] w2 W3:=by rw[hW3];exact(aa.refl [] _).alloc _
    have B3:W3.heap[w2.heap.size]?=some (.cells #[.slice ao1 n1 c1',.int .i64 0,.string ⟨#[]⟩,.int .i64 0,.int .i64 0,.int .i64 0] 102 (0,0)):=by rw[hW3];exact heap_alloc_new _ _
    rw[<-hW3];have s0:=(cY B3).1
    have e2:W3.cell? ⟨b,2,none⟩=some (.slice ao2 n2 c2'):=by
     rw[World.cell?_of_block (k3.block b hb2 (by simp))];exact d2
    have hb3:b<W3.heap.size:=Nat.lt_of_lt_of_le hb2 k3.size;clear hW3 d0 d1 d2
    go_region_with (go_at_call 46;refine(HBG.out _ (by exact k3.trans (aa.refl [] W3).drew)).mono ?_;rintro e w4 ⟨rfl,k4⟩)
    all_goals
     have K4:aa [] w2 w4:=(k3.trans (aa.refl [] W3).drew).trans k4;have B4:=k4.get ((aa.refl [] W3).drew.get B3 (by simp)) (by simp);obtain⟨t0,-,-,-,-,-⟩:=cY B4;have hW4:=hW2.still K4;have hz4:=ac B4;have hb4:=hW4.lt;obtain⟨f0,f1,f2⟩:=hW4.cells;obtain⟨ao3,n3,c3',hrs3⟩:=io o (bj T).length;rw[hrs3]at f2;have hfr:=an hW4.blk;have hne:b≠w2.heap.size:=by omega
     have hne':w2.heap.size≠b:=by omega
     have HT4:=(show Hid _ from hW4.text U o' (HR2.out.still K4) (fun g hg=>by have:=hg2 g hg;omega));rw[HRS1.out]at HT4;have HV4:Hid (bY w4 x fs2):=hV2.kept K4 (by simp);have HRp4:Hid (eL w4 x (b+1) N U):=((HRep.out hr).still K4).down (by omega);have HKK:Hid (aa [b,x] w w4):=(hk2.mono (by simp)).trans (K4.mono (by simp));clear s0 e2 B3 hW4 hrs3 B4 k4 K4;go_wp2;go_ret;exact⟨rfl,⟨U,o',HT4.out,HF2.out,Or.inr (HRp4.out.keptB (nE w4 b _ _) hx (by omega))⟩,⟨fs2,HV4.out.kept (nE w4 b _ _) (by simpa using hx),hM2⟩,(HKK.out.setCell (Or.inl (by simp)) _).setCell (Or.inl (by simp)) _⟩
 ·go_enter Tryz.func15,Tryz.ntmps15
  go_wp2_with (go_at_call 44;refine(pm _ _ (by omega)).mono ?_;rintro e w9 ⟨rfl,rfl⟩);go_ret;exact⟨rfl,⟨T,o,hW,hT,hRp.out⟩,⟨fs,hV,hM⟩,aa.refl _ _⟩
def EV(w0 w:World)(b x:Nat):Prop:=w0.heap.size<=b/\w0.heap.size<=x/\x≠b/\(∃T o,ba w b x T o/\iq T/\(bj T=[]∨eL w x (b+1) 0 T))/\(∃fs,bY w x fs/\Ds 0 fs)
set_option maxRecDepth 100000 in
theorem v9(ao:Option Addr)(cap:Nat)(l:List ByteArray)(w:World)(hl:l.length<=1073741824)(hls:∀i,i<l.length->(l.getD i ⟨#[]⟩).size<=1073741824)
  (hc:l.length=0∨∃b off,ao=some ⟨b,off,none⟩/\fZ w b off l) :
  Calls Tryz.prog 7 #[.slice ao l.length cap] w fun e w'=>∃b x,e=.returned (.tuple #[.pointer (some ⟨b,0,none⟩),.bool true])/\EV w w' b x/\aa [] w w':=by
 go_enter Tryz.func7,Tryz.ntmps7;go_wp2_with fail;refine(yl _).mono ?_;rintro e w1 ⟨rfl,hV1,hk1⟩;have hx1:=hV1.anyR.lt
 have hW1:ba (w1.alloc (.cells #[.pointer (some ⟨w.heap.size,0,none⟩),.string ⟨#[]⟩,.slice none 0 0,.int .i64 0,.slice none 0 0,.slice none 0 0,.slice none 0 0,.slice none 0 0,.slice none 0 0] 37)) w1.heap.size w.heap.size ⟨#[]⟩ none :=
  ⟨heap_alloc_new _ _,nS,fun g hg=>by cases hg⟩
 have HW1:=(show Hid _ from hW1);clear hW1;have hsz:=hk1.size;go_wp2
 go_loopg [6,7] l.length (fun g i _ wr=>∃(k:Nat),k<=l.length/\g=l.length-k/\i=.int .i64 k/\EV w wr w1.heap.size w.heap.size/\aa [] w wr)
 case atStart=>exact⟨0,by omega,by omega,rfl,⟨by omega,Nat.le_refl _,by omega,⟨_,_,HW1.out,vR,Or.inl nS⟩,⟨[],hV1.anyR.kept ((aa.refl [] _).alloc _) (by simp),Or.inr ⟨rfl,by simp⟩,tP⟩⟩,hk1.alloc _⟩
 case round =>
  obtain⟨k,hk,hg,rfl,⟨la,lb,lc,⟨T,o,hW,hT,hRp⟩,⟨fs,hV,hM⟩⟩,hkp⟩:=hrel;have HRp:=(show Hid _ from hRp);clear hRp
  by_cases hlt:k<l.length
  ·rcases hc with h0 | ⟨cb,off,rfl,hcc⟩
   ·omega
   ·have hcb:=hcc.1
    have hcr:=(hcc.kept hkp (by simp)).2 k hlt;have e0:l.getD k ⟨#[]⟩=l[k]:=by rw[List.getD_eq_getElem?_getD,List.getElem?_eq_getElem hlt];rfl
    have hcs:=hls k hlt;rw[e0]at hcs;generalize l[k]=c at *;clear e0;go_wp2_with fail;refine(vM (N:=0) (by omega) w1.heap.size w.heap.size T c o fs _ hW hV lc hM hT hcs HRp).mono ?_;rintro e w2 ⟨rfl,hW2,hV2,hk2⟩;have hkw:aa [] w w2:=⟨hk2.os.trans hkp.os,hk2.tape.trans hkp.tape,hk2.output.trans hkp.output,Nat.le_trans hkp.size hk2.size,fun i hi _=>(hk2.block i (Nat.lt_of_lt_of_le hi hkp.size) (by simp;omega)).trans (hkp.block i hi (by simp))⟩;go_wp2
    go_roundg (l.length-(k+1))
    case measure=>omega
    case rel=>exact⟨k+1,by omega,rfl,by go_num,⟨la,lb,lc,hW2,hV2⟩,hkw⟩
  ·go_wp2
   go_ret2;exact⟨w1.heap.size,w.heap.size,rfl,⟨la,lb,lc,⟨T,o,hW,hT,HRp.out⟩,⟨fs,hV,hM⟩⟩,hkp⟩
structure qu(D:Type) where
 one:D
 mul:D->D->D
 ok:ByteArray->D->Prop
 ap:D->D->Prop
 oneL:∀a,mul one a=a
 oneR:∀a,mul a one=a
 assoc:∀a b c,mul (mul a b) c=mul a (mul b c)
 apOL:∀c,ap one c
 apOR:∀c,ap c one
 apL:∀a b c,ap a c->ap b c->ap (mul a b) c
 apR:∀a b c,ap c a->ap c b->ap c (mul a b)
def qx{D:Type}(M:qu D)(V:ByteArray->D):List ByteArray->D
 | []=>M.one
 | x :: r=>M.mul (V x) (qx M V r)
theorem FG{D:Type}(M:qu D)(V:ByteArray->D)(a b:List ByteArray):qx M V (a++b)=M.mul (qx M V a) (qx M V b):=by
 induction a with
 | nil=>simp[qx,M.oneL]
 | cons x r ih=>simp only[List.cons_append,qx,ih,M.assoc]
def EF{D:Type}(M:qu D)(V:ByteArray->D)(us:List ByteArray)(bs:List (List ByteArray))(x:ByteArray):D:=qx M V (i6 us bs x)
theorem EQ{D:Type}(M:qu D)(V:ByteArray->D)(us:List ByteArray)(bs:List (List ByteArray))(sy:List ByteArray):qx M V (sy.flatMap (i6 us bs))=qx M (EF M V us bs) sy:=by
 induction sy with
 | nil=>rfl
 | cons x r ih=>rw[List.flatMap_cons,FG,ih];rfl
theorem rL(us:List ByteArray)(bs:List (List ByteArray))(sy acc:List ByteArray)(h:(eX us bs sy acc).length<=32):eX us bs sy acc=acc++sy.flatMap (i6 us bs):=by
 induction sy generalizing acc with
 | nil=>simp[eX]
 | cons x r ih =>
  unfold eX at h ⊢
  split
  ·rename_i g
   rw[if_pos g]at h;rw[ih _ h,List.flatMap_cons,List.append_assoc]
  ·rename_i g
   rw[if_neg g]at h;exact absurd h g
def vt{D:Type}(M:qu D)(V:ByteArray->D)(e:List ByteArray):Prop:=match e with
 | []=>True
 | t :: r=>M.ok t (qx M V r)
theorem yb{D:Type}(M:qu D)(V:ByteArray->D)(us:List ByteArray)(bs:List (List ByteArray))(t:ByteArray)(r:List ByteArray)(ht:aL us t=none)(hl:(gA us bs (t :: r)).length<=32) :
  vt M V (gA us bs (t :: r)) ↔ vt M (EF M V us bs) (t :: r):=by
 have e:gA us bs (t :: r)=t :: r.flatMap (i6 us bs):=by
  unfold gA at hl ⊢;rw[rL _ _ _ _ hl,List.nil_append,List.flatMap_cons];have:i6 us bs t=[t]:=by unfold i6;rw[ht]
  rw[this];rfl
 rw[e]
 show M.ok t _ ↔ M.ok t _
 rw[EQ]
theorem FS{D:Type}(M:qu D)(V:ByteArray->D)(a b:List ByteArray)(h:∀x∈a,∀y∈b,M.ap (V x) (V y)):M.ap (qx M V a) (qx M V b):=by
 have one:∀c:D,∀b:List ByteArray,(∀y∈b,M.ap c (V y))->M.ap c (qx M V b):=by
  intro c b
  induction b with
  | nil=>intro _;exact M.apOR c
  | cons y r ih=>intro h;exact M.apR _ _ _ (h y (by simp)) (ih (fun z hz=>h z (by simp[hz])))
 induction a with
 | nil=>exact M.apOL _
 | cons x r ih=>exact M.apL _ _ _ (one _ _ (fun y hy=>h x (by simp) y hy)) (ih (fun z hz=>h z (by simp[hz])))
theorem pL(us:List ByteArray)(x:ByteArray):aL us x=us.findIdx? (fun y=>y.toList==x.toList):=by
 unfold aL
 induction us with
 | nil=>rfl
 | cons y r ih =>
  rw[List.length_cons,List.range_succ_eq_map,List.find?_cons,List.findIdx?_cons]
  cases h:(y.toList==x.toList) with
  | true=>simp[h]
  | false =>
   simp only[List.getD_cons_zero,h,List.find?_map,Bool.false_eq_true,if_false];rw[<-ih];rfl
theorem yw(us ts:List ByteArray)(x:ByteArray):aL (us++ts) x=(aL us x).or ((aL ts x).map (· + us.length)):=by
 rw[pL,pL,pL,List.findIdx?_append]
theorem iD{us:List ByteArray}{x:ByteArray}{i:Nat}(h:aL us x=some i):i<us.length:=by
 have:=List.mem_of_find?_eq_some h;simpa using this
theorem DI{us ts:List ByteArray}{bs cs:List (List ByteArray)}(hl:us.length=bs.length)(x:ByteArray)(h:aL us x=none->aL ts x=none):i6 (us++ts) (bs++cs) x=i6 us bs x:=by
 unfold i6;rw[yw]
 cases g:aL us x with
 | none=>rw[h g];rfl
 | some i =>
  show(bs++cs).getD i []=bs.getD i []
  have:=iD g;rw[List.getD_eq_getElem?_getD,List.getD_eq_getElem?_getD,List.getElem?_append_left (by omega)]
theorem yH{D:Type}(M:qu D){V W:ByteArray->D}{e:List ByteArray}(h:∀x∈e,V x=W x):qx M V e=qx M W e:=by
 induction e with
 | nil=>rfl
 | cons x r ih=>rw[qx,qx,h x (by simp),ih (fun y hy=>h y (by simp[hy]))]
def iJ(l:List St)(hs:List Nat):List ByteArray:=hs.filterMap (fun h=>if((l.getD h dD).kind==3)=true then none else some (al (l.getD h dD)))
theorem mY(l:List St)(hs:List Nat):∀(es:List (List ByteArray)) (S:Bg),es.length=hs.length->(cS l hs es S).1=0->∃cs,(cS l hs es S).2=(S.1++iJ l hs,S.2++cs)/\cs.length=(iJ l hs).length:=by
 induction hs with
 | nil =>
  intro es S _ _;refine⟨[],?_,rfl⟩
  cases es <;> simp[cS,iJ]
 | cons h hs ih =>
  intro es S he h0
  cases es with
  | nil=>simp at he
  | cons e es =>
   rw[cS]at h0 ⊢
   cases c:((fw (l.getD h dD) e S).1==0) with
   | false=>rw[c]at h0;simp only[Bool.false_eq_true,if_false]at h0;rw[h0]at c;simp at c
   | true =>
    rw[if_pos c]at h0;rw[if_pos rfl];obtain⟨cs,e1,e2⟩:=ih es _ (by simpa using he) h0;rw[e1];unfold fw at c ⊢
    cases k:((l.getD h dD).kind==3) with
    | true =>
     rw[if_pos k]at c;rw[if_pos rfl];have ev:iJ l (h :: hs)=iJ l hs:=by unfold iJ;rw[List.filterMap_cons,if_pos k]
     rw[ev];refine⟨cs,?_,e2⟩
     split <;> rfl
    | false =>
     rw[k]at c;have ev:iJ l (h :: hs)=al (l.getD h dD) :: iJ l hs:=by unfold iJ;rw[List.filterMap_cons,k];rfl
     rw[ev]
     cases e with
     | nil=>simp at c
     | cons x r =>
      simp only[Bool.false_eq_true,if_false]at c ⊢
      split
      ·exact⟨r :: cs,by simp,by simp[e2]⟩
      ·rename_i g;rw[if_neg g]at c;simp at c
structure GG(l:List St)(hs:List Nat):Prop where
 two:∀h∈hs,((l.getD h dD).kind==3)=false->(l.getD h dD).symbols=[aR (l.getD h dD),al (l.getD h dD)]
 ess:∀h∈hs,(l.getD h dD).symbols≠[]
 tc:∀h∈hs,aL (iJ l hs) (aR (l.getD h dD))=none
 uq:(iJ l hs).Nodup
 pre:∀ah h bs,hs=ah++h :: bs->((l.getD h dD).kind==3)=true->∀x∈(l.getD h dD).symbols,aL (iJ l ah) x=none->aL (iJ l bs) x=none
theorem sq(l:List St)(a b:List Nat):iJ l (a++b)=iJ l a++iJ l b:=by unfold iJ;rw[List.filterMap_append]
theorem BC{a b:List ByteArray}(h:qY a b=true):a=b:=by
 replace h:a.map (·.toList)=b.map (·.toList):=eq_of_beq h
 induction a generalizing b with
 | nil=>cases b <;> simp_all
 | cons x r ih =>
  cases b with
  | nil=>simp at h
  | cons y t =>
   simp only[List.map_cons,List.cons.injEq]at h;rw[bV h.1,ih h.2]
theorem b9{us:List ByteArray}{x:ByteArray}:aL us x=none ↔ x∉us:=by
 rw[pL,List.findIdx?_eq_none_iff]
 constructor
 ·intro h m;have:=h x m;simp at this
 ·intro h y hy
  cases c:(y.toList==x.toList) with
  | false=>rfl
  | true=>exact absurd (bV (eq_of_beq c) ▸ hy) h
theorem zb{D:Type}(M:qu D)(V:ByteArray->D)(l:List St)(all:List Nat)(H:GG l all):∀(hs ah:List Nat) (es:List (List ByteArray)) (S:Bg),all=ah++hs->es.length=hs.length->S.1=iJ l ah->S.1.length=S.2.length ->
  (∀e∈es,vt M V e/\e≠[]/\e.length<=32)->(cS l hs es S).1=0->∀h∈hs,vt M (EF M V (cS l hs es S).2.1 (cS l hs es S).2.2) (l.getD h dD).symbols:=by
 intro hs
 induction hs with
 | nil=>intro _ _ _ _ _ _ _ _ _ h hm;cases hm
 | cons h hs ih =>
  intro ah es S ha hl hS hSl hE h0 q hq
  cases es with
  | nil=>simp at hl
  | cons e es =>
   have hm:h∈all:=by rw[ha];simp
   obtain⟨cs,g1,g2⟩:=mY l (h :: hs) (e :: es) S hl h0
   have hf:((fw (l.getD h dD) e S).1==0)=true:=by
    rw[cS]at h0
    cases c:((fw (l.getD h dD) e S).1==0) with
    | true=>rfl
    | false=>rw[c]at h0;simp only[Bool.false_eq_true,if_false]at h0;rw[h0]at c;simp at c
   obtain⟨e1,e2,e3⟩:=hE e (by simp)
   rcases List.mem_cons.1 hq with rfl | hq
   ·rw[g1]
    cases k:((l.getD q dD).kind==3) with
    | true =>
     unfold fw at hf;rw[if_pos k]at hf
     have he:qY (gA S.1 S.2 (l.getD q dD).symbols) e=true:=by
      cases c:qY (gA S.1 S.2 (l.getD q dD).symbols) e with
      | true=>rfl
      | false=>rw[c]at hf;simp at hf
     have he:=BC he;obtain⟨t,r,er⟩:=List.exists_cons_of_ne_nil (H.ess q hm);have ht:aR (l.getD q dD)=t:=by unfold aR;rw[er];rfl
     have hn:aL (iJ l all) t=none:=ht ▸ H.tc q hm
     have hn1:aL S.1 t=none:=by
      rw[b9]at hn ⊢;intro m;exact hn (by rw[ha,sq,<-hS];simp[m])
     have:=(yb M V S.1 S.2 t r hn1 (by rw[<-er,he];exact e3)).1 (by rw[<-er,he];exact e1);rw[er]
     show M.ok t _
     rw[yH M (W:=EF M V S.1 S.2) (fun x hx=>?_)]
     ·exact this
     ·unfold EF
      rw[DI hSl x];intro hx0;have ev:iJ l (q :: hs)=iJ l hs:=by unfold iJ;rw[List.filterMap_cons,if_pos k]
      rw[ev];exact H.pre ah q hs ha k x (by rw[er];simp[hx]) (hS ▸ hx0)
    | false =>
     obtain⟨x,r,er⟩:=List.exists_cons_of_ne_nil e2;subst er;have ev:iJ l (q :: hs)=al (l.getD q dD) :: iJ l hs:=by unfold iJ;rw[List.filterMap_cons,k];rfl
     have h2:=H.two q hm k
     have hx:x=aR (l.getD q dD):=by
      unfold fw at hf;rw[k]at hf;simp only[Bool.false_eq_true,if_false]at hf
      split at hf
      ·rename_i g;exact bV (eq_of_beq g)
      ·simp at hf
     have hc:∃cs',cs=r :: cs':=by
      rw[cS,if_pos hf]at g1 h0;obtain⟨cs',u1,-⟩:=mY l hs es _ (by simpa using hl) h0;rw[u1]at g1;unfold fw at g1 hf;rw[k]at g1 hf;simp only[Bool.false_eq_true,if_false]at g1 hf
      split at g1
      ·simp only[Prod.mk.injEq,List.append_assoc,List.singleton_append,List.append_cancel_left_eq]at g1
       exact⟨cs',g1.2.symm⟩
      ·rename_i g;rw[if_neg g]at hf;simp at hf
     obtain⟨cs',rfl⟩:=hc;rw[h2]
     show M.ok _ (M.mul (EF M V _ _ (al (l.getD q dD))) M.one)
     rw[M.oneR,<-hx]
     have hv:aL S.1 (al (l.getD q dD))=none:=by
      rw[b9,hS];have hu:=H.uq;rw[ha,sq,ev]at hu;exact fun m=>(List.nodup_append.1 hu).2.2 _ m _ (by simp) rfl
     have:i6 (S.1++iJ l (q :: hs)) (S.2++r :: cs') (al (l.getD q dD))=r:=by
      unfold i6;rw[yw,hv,ev,pL];simp only[List.findIdx?_cons,BEq.rfl,if_true,Option.none_or,Option.map_some,Nat.zero_add];rw[hSl,List.getD_eq_getElem?_getD,List.getElem?_append_right (Nat.le_refl _)];simp
     unfold EF;rw[this];exact e1
   ·rw[cS,if_pos hf]at h0 ⊢
    have grow:(fw (l.getD h dD) e S).2.1=iJ l (ah++[h])/\(fw (l.getD h dD) e S).2.1.length=(fw (l.getD h dD) e S).2.2.length:=by
     rw[sq,<-hS];unfold fw at hf ⊢
     cases k:((l.getD h dD).kind==3) with
     | true =>
      have ev:iJ l [h]=[]:=by unfold iJ;rw[List.filterMap_cons,if_pos k];rfl
      rw[if_pos rfl,ev]
      split <;> simp[hSl]
     | false =>
      rw[k]at hf;have ev:iJ l [h]=[al (l.getD h dD)]:=by unfold iJ;rw[List.filterMap_cons,k];rfl
      rw[ev];obtain⟨x,r,rfl⟩:=List.exists_cons_of_ne_nil e2;simp only[Bool.false_eq_true,if_false]at hf ⊢
      split
      ·simp[hSl]
      ·rename_i g;rw[if_neg g]at hf;simp at hf
    exact ih (ah++[h]) es _ (by rw[ha];simp) (by simpa using hl) grow.1 grow.2 (fun e he=>hE e (by simp[he])) h0 q hq
theorem yq(vs:List ByteArray)(X:List ByteArray):∀acc p,(p∈acc∨∃x∈X,aL vs x=some p)->p∈jG vs X acc:=by
 induction X with
 | nil=>intro acc p h;rcases h with h | ⟨x,hx,-⟩;exact h;cases hx
 | cons y r ih =>
  intro acc p h;unfold jG
  cases g:aL vs y with
  | none =>
   refine ih _ _ ?_
   rcases h with h | ⟨x,hx,e⟩
   ·exact Or.inl h
   ·rcases List.mem_cons.1 hx with rfl | hx
    ·rw[g]at e;cases e
    ·exact Or.inr ⟨x,hx,e⟩
  | some q =>
   simp only
   split
   ·rename_i hh
    refine ih _ _ ?_
    rcases h with h | ⟨x,hx,e⟩
    ·exact Or.inl h
    ·rcases List.mem_cons.1 hx with rfl | hx
     ·rw[g]at e;cases e
      unfold fA at hh;obtain⟨z,hz,ez⟩:=List.any_eq_true.1 hh;have:=eq_of_beq ez;exact Or.inl (this ▸ hz)
     ·exact Or.inr ⟨x,hx,e⟩
   ·refine ih _ _ ?_
    rcases h with h | ⟨x,hx,e⟩
    ·exact Or.inl (by simp[h])
    ·rcases List.mem_cons.1 hx with rfl | hx
     ·rw[g]at e;cases e;exact Or.inl (by simp)
     ·exact Or.inr ⟨x,hx,e⟩
abbrev gR (l:List St) (n:Nat):List ByteArray:=iJ l (aq l n)
def Dy(l:List St)(n:Nat)(x:ByteArray):Prop:=x∈(l.getD n dD).symbols∨∃h∈aq l n,x∈(l.getD h dD).symbols
def rX{D:Type}(M:qu D)(K:ByteArray->D)(l:List St)(n:Nat):Prop :=
 ∀V:ByteArray->D,(∀x,Dy l n x->aL (gR l n) x=none->V x=K x)->(∀h∈aq l n,vt M V (l.getD h dD).symbols) ->
  (∀i j,i<j->j<(gR l n).length->bW (gR l n).length (ce l n (gR l n)) i j=true->M.ap (V ((gR l n).getD i ⟨#[]⟩)) (V ((gR l n).getD j ⟨#[]⟩)))->vt M V (l.getD n dD).symbols
structure A9(l:List St)(n:Nat):Prop where
 hy:GG l (aq l n)
 ne:(l.getD n dD).symbols≠[]
 tc:aL (gR l n) (aR (l.getD n dD))=none
theorem qV{us:List ByteArray}{bs:List (List ByteArray)}{x:ByteArray}(h:aL us x=none):i6 us bs x=[x]:=by unfold i6;rw[h]
theorem kU{us:List ByteArray}(hu:us.Nodup){i:Nat}(hi:i<us.length):aL us (us.getD i ⟨#[]⟩)=some i:=by
 have hm:us.getD i ⟨#[]⟩=us[i]:=by rw[List.getD_eq_getElem?_getD,List.getElem?_eq_getElem hi];rfl
 cases g:aL us (us.getD i ⟨#[]⟩) with
 | none=>rw[b9,hm]at g;exact absurd (List.getElem_mem hi) g
 | some j =>
  have hj:=iD g;have e:=List.find?_some g;have e:=bV (eq_of_beq e);rw[hm,List.getD_eq_getElem?_getD,List.getElem?_eq_getElem hj]at e;have:=(List.getElem_inj hu).1 (show us[j]=us[i] from e);rw[this]
theorem tF{D:Type}(M:qu D)(K V:ByteArray->D)(l:List St)(n:Nat)(vs:List ByteArray)(ms:List Bool)(th:List (List ByteArray))(A:A9 l n)(hv:rX M K l n)
  (hK:∀x,Dy l n x->aL (gR l n) x=none->V x=K x)
  (hC:∀x,aL vs x=none->∀d,M.ap (V x) d/\M.ap d (V x))
  (hP:∀i j,i<vs.length->j<vs.length->bW vs.length ms i j=true->∀x y,aL vs x=some i->aL vs y=some j->M.ap (V x) (V y))
  (hth:∀e∈th,vt M V e/\e≠[]/\e.length<=32) (h0:(dx l n vs ms th).1=0) (hl:(dx l n vs ms th).2.length<=32) :
  vt M V (dx l n vs ms th).2/\(dx l n vs ms th).2≠[]:=by
 unfold dx at h0 hl ⊢
 by_cases c:th.length<(aq l n).length
 ·rw[if_pos c]at h0;simp at h0
 ·rw[if_neg c]at h0 hl ⊢
  unfold j7 at h0 hl ⊢;have hE:(th.drop (th.length-(aq l n).length)).length=(aq l n).length:=by simp;omega
  cases f:((cS l (aq l n) (th.drop (th.length-(aq l n).length)) ([],[])).1==0) with
  | false=>rw[f]at h0;simp only[Bool.false_eq_true,if_false]at h0;rw[h0]at f;simp at f
  | true =>
   rw[if_pos f]at h0 hl;rw[if_pos rfl];have f0:=eq_of_beq f;obtain⟨cs,g1,g2⟩:=mY l (aq l n) _ ([],[]) hE f0;have fs:=zb M V l (aq l n) A.hy (aq l n) [] _ ([],[]) rfl hE rfl rfl (fun e he=>hth e (List.mem_of_mem_drop he)) f0;simp only[List.nil_append]at g1;rw[g1]at h0 hl fs ⊢;simp only at fs h0 hl ⊢
   cases k:lw l n (iJ l (aq l n),cs) vs ms with
   | false=>rw[k]at h0;simp at h0
   | true =>
    rw[k,if_pos rfl]at hl;rw[if_pos rfl];simp only at hl ⊢;obtain⟨t,r,er⟩:=List.exists_cons_of_ne_nil A.ne;have ht:aL (iJ l (aq l n)) t=none:=by have:=A.tc;unfold aR at this;rw[er]at this;exact this
    rw[er]at hl ⊢
    have e:gA (iJ l (aq l n)) cs (t :: r)=t :: r.flatMap (i6 (iJ l (aq l n)) cs):=by
     unfold gA at hl ⊢;rw[rL _ _ _ _ hl,List.nil_append,List.flatMap_cons,qV ht];rfl
    refine⟨(yb M V _ _ t r ht hl).2 ?_,by rw[e];simp⟩;rw[<-er];refine hv _ (fun x hx h=>?_) fs (fun i j hij hj ha=>?_)
    ·unfold EF
     rw[qV h]
     show M.mul (V x) M.one=_
     rw[M.oneR];exact hK x hx h
    ·have hj:j<(iJ l (aq l n)).length:=hj
     have hi:i<(iJ l (aq l n)).length:=by omega
     unfold EF i6;rw[kU A.hy.uq hi,kU A.hy.uq hj];refine FS M V _ _ (fun x hx y hy=>?_);unfold lw at k;have kk:=of_decide_eq_true k i hi j hj hij;unfold jQ at kk;rw[ha]at kk;simp only[Bool.not_true,Bool.false_or]at kk
     cases px:aL vs x with
     | none=>exact(hC x px _).1
     | some p =>
      cases py:aL vs y with
      | none=>exact(hC y py _).2
      | some q =>
       unfold oD at kk;have h1:=List.all_eq_true.1 kk p (yq vs _ [] p (Or.inr ⟨x,hx,px⟩));have h2:=List.all_eq_true.1 h1 q (yq vs _ [] q (Or.inr ⟨y,hy,py⟩));exact hP p q (iD px) (iD py) h2 x y px py
def oy{D:Type}(M:qu D)(V:ByteArray->D)(L:List (List ByteArray)):Prop:=∀e∈L,vt M V e/\e≠[]/\e.length<=32
structure Gw{D:Type}(M:qu D)(K V:ByteArray->D)(l:List St)(a:Nat)(vs:List ByteArray)(ms:List Bool)(steps:List fk):Prop where
 hyp:∀s∈steps,(s.kind==3)=false->dW l s.number=false->vt M V (l.getD s.number dD).symbols/\(l.getD s.number dD).symbols≠[]
 ass:∀s∈steps,(s.kind==3)=false->dW l s.number=true->A9 l s.number/\rX M K l s.number/\∀x,Dy l s.number x->aL (gR l s.number) x=none->V x=K x
 con:∀x,aL vs x=none->∀d,M.ap (V x) d/\M.ap d (V x)
 par:∀i j,i<vs.length->j<vs.length->bW vs.length ms i j=true->∀x y,aL vs x=some i->aL vs y=some j->M.ap (V x) (V y)
theorem xc{D:Type}{M:qu D}{K V:ByteArray->D}{l:List St}{a:Nat}{vs:List ByteArray}{ms:List Bool}{steps:List fk}(E:Gw M K V l a vs ms steps){sh th:List (List ByteArray)}(h1:oy M V sh)(h2:oy M V th){s:fk}(hs:s∈steps)
  (h0:(dr l vs ms sh th s).1.1=0) (hl:(dr l vs ms sh th s).1.2.length<=32):(vt M V (dr l vs ms sh th s).1.2/\(dr l vs ms sh th s).1.2≠[])/\oy M V (dr l vs ms sh th s).2:=by
 unfold dr at h0 hl ⊢
 cases k:(s.kind==3) with
 | true =>
  rw[k,if_pos rfl]at h0 hl;rw[if_pos rfl]
  by_cases c:s.number<sh.length
  ·rw[if_pos c]at h0 hl ⊢
   have hm:sh.getD s.number []∈sh:=by rw[List.getD_eq_getElem?_getD,List.getElem?_eq_getElem c];exact List.getElem_mem c
   exact⟨⟨(h1 _ hm).1,(h1 _ hm).2.1⟩,h2⟩
  ·rw[if_neg c]at h0;simp at h0
 | false =>
  rw[k]at h0 hl;simp only[Bool.false_eq_true,if_false]at h0 hl ⊢
  cases i:dW l s.number with
  | true =>
   rw[i,if_pos rfl]at h0 hl;rw[if_pos rfl];obtain⟨A,v,hK⟩:=E.ass s hs k i;exact⟨tF M K V l s.number vs ms th A v hK E.con E.par h2 h0 hl,fun e he=>h2 e (List.mem_of_mem_take he)⟩
  | false =>
   simp only[Bool.false_eq_true,if_false];exact⟨E.hyp s hs k i,h2⟩
theorem wJ{D:Type}{M:qu D}{K V:ByteArray->D}{l:List St}{a:Nat}{vs:List ByteArray}{ms:List Bool}{steps:List fk}(E:Gw M K V l a vs ms steps){S:List (List ByteArray)×List (List ByteArray)}(h1:oy M V S.1)(h2:oy M V S.2){s:fk}(hs:s∈steps)
  (h0:((fn l vs ms S s).1==0)=true):oy M V (fn l vs ms S s).2.1/\oy M V (fn l vs ms S s).2.2:=by
 unfold fn at h0 ⊢
 cases c:((dr l vs ms S.1 S.2 s).1.1==0) with
 | false=>rw[c]at h0;simp only[Bool.false_eq_true,if_false]at h0;rw[h0]at c;cases c
 | true =>
  rw[c,if_pos rfl]at h0;rw[if_pos rfl]
  by_cases g:(dr l vs ms S.1 S.2 s).1.2.length<=32
  ·rw[if_pos g]
   obtain⟨⟨q1,q2⟩,q3⟩:=xc E h1 h2 hs (eq_of_beq c) g
   have app:∀L:List (List ByteArray),oy M V L->oy M V (L++[(dr l vs ms S.1 S.2 s).1.2]):=by
    intro L hL e he
    rcases List.mem_append.1 he with he | he
    ·exact hL e he
    ·rw[List.mem_singleton.1 he];exact⟨q1,q2,g⟩
   exact⟨app _ h1,app _ q3⟩
  ·rw[if_neg g]at h0;simp at h0
theorem qG{D:Type}{M:qu D}{K V:ByteArray->D}{l:List St}{a:Nat}{vs:List ByteArray}{ms:List Bool}{steps:List fk}(E:Gw M K V l a vs ms steps)(fin:Pl)(goal:List ByteArray) :
  ∀(r:List fk) (S:List (List ByteArray)×List (List ByteArray)),(∀s∈r,s∈steps)->oy M V S.1->oy M V S.2->((dC l vs ms fin goal r S).1==0)=true->vt M V goal:=by
 intro r
 induction r with
 | nil =>
  intro S _ _ h2 h0;rw[dC]at h0;unfold yj at h0
  match e:S.2 with
  | []=>rw[e]at h0;simp at h0
  | [x] =>
   rw[e]at h0;simp only at h0
   cases c:qY x goal with
   | true=>rw[<-BC c];exact(h2 x (by rw[e];simp)).1
   | false=>rw[c]at h0;simp at h0
  | _ :: _ :: _=>rw[e]at h0;simp at h0
 | cons s r ih =>
  intro S hr h1 h2 h0;rw[dC]at h0
  cases c:((fn l vs ms S s).1==0) with
  | true =>
   rw[c,if_pos rfl]at h0;obtain⟨q1,q2⟩:=wJ E h1 h2 (hr s (by simp)) c;exact ih _ (fun x hx=>hr x (by simp[hx])) q1 q2 h0
  | false=>rw[c]at h0;simp only[Bool.false_eq_true,if_false]at h0;rw[h0]at c;cases c
theorem f9(L:List ByteArray)(x:ByteArray):aZ L x=true ↔ x∈L:=by
 unfold aZ;rw[List.any_eq_true];exact⟨fun⟨y,h,e⟩=>bV (eq_of_beq e) ▸ h,fun h=>⟨x,h,by simp⟩⟩
theorem FW(L:List ByteArray)(x:ByteArray):aZ L x=false ↔ x∉L:=by
 rw[<-f9,Bool.not_eq_true]
def vp(s:St):ByteArray:=s.symbols.getD 1 ⟨#[]⟩
def mD(s:St):Option ByteArray:=if s.kind=2/\s.til=0 then some (vp s) else none
def pI(l:List St):List ByteArray:=l.filterMap mD
structure Vr(d:Db):Prop where
 cv:∀x∈d.constants,x∉d.variables
 av:∀x∈d.active,x∈d.variables
 typ:d.typed=pI d.sts
 tv:∀x∈d.typed,x∈d.variables
 nd:d.typed.Nodup
 len:d.blocks.length=d.rbl.length
 blk:∀(i:Nat) (p:Nat×Nat) (b:Nat),d.blocks[i]?=some p->d.rbl[i]?=some b->b<=d.sts.length/\p.2<=d.typed.length/\pI (d.sts.take b)=d.typed.take p.2
 ord:∀i j b c:Nat,i<=j->d.rbl[i]?=some b->d.rbl[j]?=some c->b<=c
 c7:d.kind=7->∀x∈d.symbols,x∉d.variables
 c8:d.kind=8->∀x∈d.symbols,x∉d.constants
 c2:d.kind=2->∀(i:Nat) x,d.symbols[i]?=some x->(i=0->x∈d.constants)/\(i≠0->x∈d.variables/\x∉d.typed)
 c3:3<=d.kind/\d.kind<=5->∀x∈d.symbols,x∈d.constants∨(x∈d.variables/\x∈d.typed)
 st:∀(n:Nat) s,d.sts[n]?=some s->2<=s.kind/\s.kind<=5->∀x∈s.symbols,x∈d.constants∨(x∈d.variables/\(s.kind≠2->∃(k:Nat) (u:St),k<n/\d.sts[k]?=some u/\u.kind=2/\vp u=x/\(u.til=0∨n<u.til)))
 ds:∀(n m:Nat) s u,d.sts[n]?=some s->d.sts[m]?=some u->s.kind=2->u.kind=2->n<m->(s.til=0∨m<s.til)->vp s≠vp u
 fl:∀(n:Nat) s,d.sts[n]?=some s->s.kind=2->vp s∈d.variables
 til:∀(n:Nat) s,d.sts[n]?=some s->s.til<=d.sts.length
 nest:∀(k h:Nat) u s,k<h->d.sts[k]?=some u->d.sts[h]?=some s->jt s.kind=false->u.til≠0->h<u.til->s.til≠0/\s.til<=u.til
theorem Vr.empty:Vr bh:=by
 refine⟨?_,?_,rfl,?_,List.nodup_nil,rfl,?_,?_,?_,?_,?_,?_,?_,?_,?_,?_,?_⟩
 all_goals intros
 all_goals simp_all [bh]
theorem Vr.kd{d d':Db}(V:Vr d)(e1:d'.constants=d.constants)(e2:d'.variables=d.variables)(e3:d'.active=d.active)(e4:d'.typed=d.typed)(e5:d'.blocks=d.blocks)(e6:d'.sts=d.sts)(e7:d'.rbl=d.rbl)(h:d'.symbols=[]):Vr d':=by
 refine⟨by rw[e1,e2];exact V.cv,by rw[e3,e2];exact V.av,by rw[e4,e6];exact V.typ,by rw[e4,e2];exact V.tv,by rw[e4];exact V.nd,by rw[e5,e7];exact V.len,by rw[e5,e7,e6,e4];exact V.blk,by rw[e7];exact V.ord,?_,?_,?_,?_,by rw[e6,e1,e2];exact V.st,by rw[e6];exact V.ds,by rw[e6,e2];exact V.fl,by rw[e6];exact V.til,by rw[e6];exact V.nest⟩
 all_goals (rw[h];intros;simp_all)
theorem sL(a b:List St):pI (a++b)=pI a++pI b:=by unfold pI;rw[List.filterMap_append]
theorem yn{l:List St}{x:ByteArray}:x∈pI l ↔ ∃(k:Nat) (u:St),l[k]?=some u/\u.kind=2/\u.til=0/\vp u=x:=by
 unfold pI;rw[List.mem_filterMap]
 constructor
 ·rintro ⟨u,hu,e⟩
  obtain⟨k,hk⟩:=List.getElem?_of_mem hu;unfold mD at e
  split at e
  ·next h=>exact⟨k,u,hk,h.1,h.2,Option.some.inj e⟩
  ·cases e
 ·rintro ⟨k,u,hk,h1,h2,h3⟩
  exact⟨u,List.mem_of_getElem? hk,by unfold mD;rw[if_pos ⟨h1,h2⟩,h3]⟩
theorem Ep(l:List St)(b:Nat)(hb:b<=l.length):pI (cr l b)=pI (l.take b):=by
 have hlen:(cr l b).length=l.length:=by unfold cr cU;rw[List.length_mapIdx]
 have e:cr l b=l.take b++(l.drop b).map (eW l.length):=by
  apply List.ext_getElem?
  intro i;rw[iu,List.getElem?_append,List.length_take,Nat.min_eq_left hb]
  by_cases h:i<b
  ·rw[if_pos h,List.getElem?_take_of_lt h]
   cases l[i]? with
   | none=>rfl
   | some s=>simp only[Option.map_some];rw[if_neg (by omega)]
  ·rw[if_neg h,List.getElem?_map,List.getElem?_drop,show b+(i-b)=i by omega]
   cases g:l[i]? with
   | none=>rfl
   | some s =>
    have:=(List.getElem?_eq_some_iff.1 g).1;simp only[Option.map_some];rw[if_pos (by omega)]
 rw[e,sL]
 have:pI ((l.drop b).map (eW l.length))=[]:=by
  unfold pI;rw[List.filterMap_eq_nil_iff];intro s hs;obtain⟨u,hu,rfl⟩:=List.mem_map.1 hs
  have hl:l.length≠0:=fun h0=>by
   have:l=[]:=List.eq_nil_of_length_eq_zero h0;rw[this]at hu;simp at hu
  unfold mD;rw[if_neg];rintro ⟨h1,h2⟩;unfold eW at h1 h2
  split at h2
  ·exact hl h2
  ·next h =>
   rw[if_neg h]at h1;exact h ⟨h2,by rw[h1];rfl⟩
 rw[this,List.append_nil]
theorem jx{l:List St}{b i:Nat}{s:St}(h:(cr l b)[i]?=some s):∃u,l[i]?=some u/\s.kind=u.kind/\s.symbols=u.symbols/\s=(if b<=i/\i<l.length then eW l.length u else u)/\(s.til=u.til∨(u.til=0/\s.til=l.length/\b<=i)):=by
 rw[iu]at h
 cases g:l[i]? with
 | none=>rw[g]at h;cases h
 | some u =>
  rw[g]at h;simp only[Option.map_some,Option.some.injEq]at h;refine⟨u,rfl,?_⟩;subst h
  by_cases c:b<=i/\i<l.length
  ·rw[if_pos c]
   unfold eW
   split
   ·next h2=>exact⟨rfl,rfl,rfl,Or.inr ⟨h2.1,rfl,c.1⟩⟩
   ·exact⟨rfl,rfl,rfl,Or.inl rfl⟩
  ·rw[if_neg c];exact⟨rfl,rfl,rfl,Or.inl rfl⟩
theorem xR(l:List St)(b:Nat):(cr l b).length=l.length:=by unfold cr cU;rw[List.length_mapIdx]
theorem BB(l:List St)(b c:Nat)(h:c<=b):(cr l b).take c=l.take c:=by
 apply List.ext_getElem?
 intro i
 by_cases hi:i<c
 ·rw[List.getElem?_take_of_lt hi,List.getElem?_take_of_lt hi,iu]
  cases l[i]? with
  | none=>rfl
  | some s=>simp only[Option.map_some];rw[if_neg (by omega)]
 ·rw[List.getElem?_eq_none (by rw[List.length_take];omega),List.getElem?_eq_none (by rw[List.length_take];omega)]
theorem Vr.close{d:Db}(V:Vr d){p:Nat×Nat}{b:Nat}(h1:d.blocks.getLast?=some p)(h2:d.rbl.getLast?=some b)(hs:d.symbols=[]):Vr { d with blocks:=d.blocks.dropLast,active:=d.active.take p.1,typed:=d.typed.take p.2,rbl:=d.rbl.dropLast,sts:=cr d.sts b }:=by
 have hL:=V.len;have b1:d.blocks[d.blocks.length-1]?=some p:=by rw[<-List.getLast?_eq_getElem?];exact h1
 have b2:d.rbl[d.blocks.length-1]?=some b:=by rw[hL,<-List.getLast?_eq_getElem?];exact h2
 obtain⟨q1,q2,q3⟩:=V.blk _ _ _ b1 b2
 have hn:0<d.blocks.length:=by
  cases g:d.blocks with
  | nil=>rw[g]at h1;cases h1
  | cons _ _=>simp
 have opn:∀{u:St} {k:Nat},d.sts[k]?=some u->k<d.sts.length:=fun h=>(List.getElem?_eq_some_iff.1 h).1
 refine⟨V.cv,fun x hx=>V.av x (List.mem_of_mem_take hx),?_,fun x hx=>V.tv x (List.mem_of_mem_take hx),V.nd.sublist (List.take_sublist _ _),by simp[hL],?_,?_,?_,?_,?_,?_,?_,?_,?_,?_,?_⟩
 ·show d.typed.take p.2=pI (cr d.sts b)
  rw[Ep _ _ q1,q3]
 ·intro i p' b' g1 g2
  simp only at g1 g2 ⊢
  have hi:i<d.blocks.length-1:=by
   have:=(List.getElem?_eq_some_iff.1 g1).1;simpa using this
  rw[List.getElem?_dropLast,if_pos hi]at g1;rw[List.getElem?_dropLast,if_pos (by omega)]at g2;obtain⟨r1,r2,r3⟩:=V.blk _ _ _ g1 g2;have hbb:b'<=b:=V.ord i _ b' b (by omega) g2 b2;rw[xR,BB _ _ _ hbb]
  have e:pI (d.sts.take b)=pI (d.sts.take b')++pI ((d.sts.take b).drop b'):=by
   rw[<-sL]
   congr 1
   have:=(List.take_append_drop b' (d.sts.take b)).symm;rwa [List.take_take,Nat.min_eq_left hbb]at this
  have hle:p'.2<=p.2:=by
   have l1:=congrArg List.length e;rw[q3,r3,List.length_append,List.length_take,List.length_take]at l1;omega
  refine⟨r1,by rw[List.length_take];omega,?_⟩;rw[r3,List.take_take,Nat.min_eq_left hle]
 ·intro i j b' c hij g1 g2
  simp only at g1 g2;have hj:j<d.rbl.length-1:=by have:=(List.getElem?_eq_some_iff.1 g2).1;simpa using this
  rw[List.getElem?_dropLast,if_pos (by omega)]at g1;rw[List.getElem?_dropLast,if_pos (by omega)]at g2;exact V.ord i j b' c hij g1 g2
 ·intro _ x hx;simp only[hs]at hx;cases hx
 ·intro _ x hx;simp only[hs]at hx;cases hx
 ·intro _ i x hx;simp only[hs]at hx;cases hx
 ·intro _ x hx;simp only[hs]at hx;cases hx
 ·intro n s g k x hx
  obtain⟨u,u1,u2,u3,-,-⟩:=jx g;rw[u2]at k;rw[u3]at hx
  rcases V.st n u u1 k x hx with h | ⟨h,hh⟩
  ·exact Or.inl h
  ·refine Or.inr ⟨h,fun k2=>?_⟩
   rw[u2]at k2;obtain⟨m,v,m1,m2,m3,m4,m5⟩:=hh k2;have hml:=opn m2;have:=opn u1;refine⟨m,if b<=m/\m<d.sts.length then eW d.sts.length v else v,m1,by simp only;rw[iu,m2];rfl,?_,?_,?_⟩
   ·split
    ·rw[(lH _ _).1];exact m3
    ·exact m3
   ·split
    ·unfold vp;rw[(lH _ _).2.2];exact m4
    ·exact m4
   ·split
    ·unfold eW;split
     ·right;show n<d.sts.length;omega
     ·exact m5
    ·exact m5
 ·intro n m s u g1 g2 k1 k2 hnm ht
  obtain⟨s',a1,a2,a3,-,a5⟩:=jx g1;obtain⟨u',c1,c2,c3,-,c5⟩:=jx g2
  have:=V.ds n m s' u' a1 c1 (by rw[<-a2];exact k1) (by rw[<-c2];exact k2) hnm (by
   rcases a5 with e | ⟨e,e2,-⟩
   ·rw[<-e];exact ht
   ·exact Or.inl e)
  unfold vp at this ⊢;rw[a3,c3];exact this
 ·intro n s g k
  obtain⟨u,u1,u2,u3,-,-⟩:=jx g;have:=V.fl n u u1 (by rw[<-u2];exact k);unfold vp at this ⊢;rw[u3];exact this
 ·intro n s g
  obtain⟨u,u1,-,-,-,u5⟩:=jx g;simp only;rw[xR]
  rcases u5 with e | ⟨-,e,-⟩
  ·rw[e];exact V.til n u u1
  ·omega
 ·intro k h u s hkh g1 g2 ha h0 ht
  obtain⟨u',a1,a2,a3,a4,a5⟩:=jx g1;obtain⟨s',c1,c2,c3,c4,c5⟩:=jx g2;have hsl:=opn c1;have sa:jt s'.kind=false:=by rw[<-c2];exact ha
  rcases a5 with e | ⟨e,e2,e3⟩
  ·rw[e]at h0 ht
   obtain⟨n1,n2⟩:=V.nest k h u' s' hkh a1 c1 sa h0 ht
   rcases c5 with g | ⟨g,-⟩
   ·rw[g,e];exact⟨n1,n2⟩
   ·exact absurd g n1
  ·have hst:s'.til<=d.sts.length:=V.til h s' c1
   rw[c4,if_pos ⟨by omega,hsl⟩,e2];unfold eW
   split
   ·exact⟨by show d.sts.length≠0;omega,Nat.le_refl _⟩
   ·next hc=>exact⟨fun z=>hc ⟨z,sa⟩,hst⟩
end Go.Proofs.YtlbhbocbakijbaaGreat

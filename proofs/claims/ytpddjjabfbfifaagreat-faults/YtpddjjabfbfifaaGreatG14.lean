import Derived.Maps.AppendAt
import Derived.Test.YtpddjjabfbfifaaGreatG13
namespace Go.Proofs.YtpddjjabfbfifaaGreat
open Go.RowKit
set_option maxHeartbeats 40000000
theorem qy{P:Program}(w:World){ops:Array Oper}{rest:List Oper}{o:Oper}{a:Act}{Q:Exit->Act->World->Prop}
  (hg:o.guard=none) (s x:Operand) (t:TypeId) (hop:o.op=Op.call { callee:=Callee.builtin Builtin.append,args:=#[s,x],argTypes:=#[t,t] })
  (i:TypeInfo) (z:Value) (bytes:Nat) (h:Hd) (r:dK) (h1:P.underlying t=some (.slice r.e)) (h2:P.info? r.e=some i) (h3:i.zero=some z) (h4:i.size=r.size) (h5:i.bytes=bytes) (h6:z.cells.size=r.size) (h7:0<r.size)
  (hs:a.eval s=.slice h.ao r.n h.cap) (hown:aA w h r)
  (ad:Addr) (m c:Nat) (news:List Value) (hx:a.eval x=.slice (some ad) m c) (hn:news.length=m*r.size) (hc:∀j u,news[j]?=some u->w.cell? (ad.add j)=some u) (h1c:∀u∈news,u.oneCell'=true)
  (b1:r.n+m<=maxLen) (b2:(r.n+m)*bytes<=140737488355328)
  (hK:∀hd' w',aA w' hd' ⟨r.e,r.size,r.n+m,r.xs++news⟩->w.grownBy w' h.blk->(hd'.blk=h.blk∨hd'.blk=some w.heap.size)->wpList P ops Q rest (a.put o.dst (.slice hd'.ao (r.n+m) hd'.cap)) w') :
  wpList P ops Q (o :: rest) a w:=by
 refine wpList_append_own_at w hg s x t hop 0 r.e i z r.size bytes h1 h2 h3 h4 h5 h6 h7 (.slice h.ao r.n h.cap) r.n r.xs hs hown ad m c news hx hn hc h1c b1 b2 (Nat.zero_le _) ?_;intro v' w' q1 q2 q3 q4;rw[xu]at q2 q4
 rcases q1.2 with ⟨e1,e2⟩ | ⟨g,cap',cur,e1,e2⟩
 ·have:=hK ⟨none,0⟩ w' ⟨q1.1,Or.inl ⟨by rw[e2],e2⟩⟩ q2 (by rw[e1]at q4;exact q4)
  rw[e1];rw[e2]at this;exact this
 ·have:=hK ⟨some ⟨g,0,none⟩,cap'⟩ w' ⟨q1.1,Or.inr ⟨g,cap',cur,rfl,e2⟩⟩ q2 (by rw[e1]at q4;exact q4)
  rw[e1];exact this
def Dl(vs:List ByteArray)(bs:List (List ByteArray))(x:ByteArray):List ByteArray:=match oF vs x with | none=>[x] | some i=>bs.getD i []
def jX(vs:List ByteArray)(bs:List (List ByteArray)):List ByteArray->List ByteArray->List ByteArray
 | [],acc=>acc
 | x :: r,acc=>if acc.length<=32 then jX vs bs r (acc++Dl vs bs x) else acc
def ma(vs:List ByteArray)(bs:List (List ByteArray))(sy:List ByteArray):List ByteArray:=jX vs bs sy []
theorem JC(vs:List ByteArray)(bs:List (List ByteArray))(sy acc:List ByteArray)(k:Nat)(hk:k<sy.length)(ha:acc.length<=32):jX vs bs (sy.drop k) acc=jX vs bs (sy.drop (k+1)) (acc++Dl vs bs sy[k]):=by
 rw[List.drop_eq_getElem_cons hk,jX,if_pos ha]
theorem EH(vs:List ByteArray)(bs:List (List ByteArray))(sy acc:List ByteArray)(ha:¬acc.length<=32):jX vs bs sy acc=acc:=by
 cases sy with
 | nil=>rfl
 | cons x r=>rw[jX,if_neg ha]
theorem GZ(vs:List ByteArray)(bs:List (List ByteArray))(sy acc:List ByteArray)(k:Nat)(hk:¬k<sy.length):jX vs bs (sy.drop k) acc=acc:=by
 rw[List.drop_of_length_le (by omega)];rfl
theorem FQ(vs:List ByteArray)(bs:List (List ByteArray))(x:ByteArray)(M:Nat)(hM:1<=M)(h:∀b∈bs,b.length<=M):(Dl vs bs x).length<=M:=by
 unfold Dl
 split
 ·simpa using hM
 ·next i _ =>
  rw[List.getD_eq_getElem?_getD]
  cases e:bs[i]? with
  | none=>simp
  | some b=>simpa using h b (List.mem_of_getElem? e)
theorem Br(vs:List ByteArray)(bs:List (List ByteArray))(M:Nat)(hM:1<=M)(h:∀b∈bs,b.length<=M)(sy acc:List ByteArray)(ha:acc.length<=32+M):(jX vs bs sy acc).length<=32+M:=by
 induction sy generalizing acc with
 | nil=>exact ha
 | cons x r ih =>
  rw[jX]
  split
  ·have:=FQ vs bs x M hM h
   exact ih _ (by simp;omega)
  ·exact ha
theorem EG(vs:List ByteArray)(bs:List (List ByteArray))(M:Nat)(hM:1<=M)(h:∀b∈bs,b.length<=M)(sy:List ByteArray):(ma vs bs sy).length<=32+M:=Br vs bs M hM h sy [] (by simp)
theorem EO(l m:List ByteArray):(⟨(aD l).e,(aD l).size,(aD l).n+m.length,(aD l).xs++dO m⟩:dK)=aD (l++m):=by simp[aD,dO]
theorem jh.cells{w:World}{h:Hd}{l:List ByteArray}{ad:Addr}(v:jh w h l)(e:h.ao=some ad):∀j u,(dO l)[j]?=some u->w.cell? (ad.add j)=some u:=by
 intro j u hu
 rcases v with rfl | ⟨g,off,cur,t,e1,e2,e3,-⟩
 ·simp[dO]at hu
 ·rw[e]at e1
  cases e1
  have hj:(l[j]?).map Value.string=some u:=by simpa [dO] using hu
  cases hl:l[j]? with
  | none=>rw[hl]at hj;cases hj
  | some x =>
   rw[hl]at hj;cases hj
   have:(⟨g,off,none⟩:Addr).add j=⟨g,off+j,none⟩:=by
    simp only[Addr.add]
    split
    ·next hz=>subst hz;rfl
    ·rfl
   rw[this,aa e2];exact e3 j x hl
set_option maxRecDepth 100000 in
theorem nP(b:Nat)(vs:List ByteArray)(be:List Ex)(H:Nat->Hd)(hy:Hd)(sy:List ByteArray)(w:World)(h:kI w b vs be H)(hl:vs.length<=10000)(hbl:∀e∈be,e.xs.length<=10000)(hv:jh w hy sy)(hyl:sy.length<=10000) :
  Calls Tryz.prog 274 #[.pointer (some ⟨b,0,none⟩),.slice hy.ao sy.length hy.cap] w fun e w'=>∃hd:Hd,
   e=.returned (.slice hd.ao (ma vs (be.map Ex.xs) sy).length hd.cap)/\aA w' hd (aD (ma vs (be.map Ex.xs) sy))/\(∀x,hd.blk=some x->w.heap.size<=x)/\ab [] w w':=by
 obtain⟨i0,hi,hz0,hz1,hz2⟩:=info_parts jI;obtain⟨ao,cap⟩:=hy
 rcases hv with rfl | ⟨g,off,cur,t,e1,e2,e3,e4,e5⟩
 ·clear hyl
  go_enter Tryz.func274,Tryz.ntmps274;go_wp2;refine wp_loop_rounds 1 ?_;rw[rounds_succ];go_wp2;go_ret;exact⟨⟨none,0⟩,rfl,World.ownsRow_nil _ _ _ _,by intro x hx;simp[Hd.blk]at hx,ab.refl _ _⟩
 simp only at e1 e4 e5;subst e1;obtain⟨R,HR⟩:∃R,Hid (R=ma vs (be.map Ex.xs) sy):=⟨_,rfl⟩
 rw[<-HR.out];go_enter Tryz.func274,Tryz.ntmps274;go_wp2
 go_loopg [5,6] sy.length (fun gk sv i wr=>∃(k:Nat) (hd:Hd) (acc:List ByteArray),k<=sy.length/\gk=sy.length-k/\i=.int .i64 k/\sv=.slice hd.ao acc.length hd.cap/\acc.length<=10032/\Hid (R=jX vs (be.map Ex.xs) (sy.drop k) acc)/\aA wr hd (aD acc)/\(∀x,hd.blk=some x->w.heap.size<=x)/\ab [] w wr)
 case atStart=>exact⟨0,⟨none,0⟩,[],by omega,by omega,rfl,rfl,by simp,HR.out,World.ownsRow_nil _ _ _ _,by intro x hx;simp[Hd.blk]at hx,ab.refl _ _⟩
 case round =>
  obtain⟨k,hd,acc,hk,hg,rfl,rfl,hal,hRk,hO,hN,hK⟩:=hrel;have hS:=h.still hK
  by_cases hlt:k<sy.length
  ·by_cases ha:acc.length<=32
   ·have hai:(acc.length:Int)<=32:=by omega
    have c2:wr.cell? ⟨g,off+k,none⟩=some (.string sy[k]):=(aa (hK.get e2 (by simp)) (off+k)).trans (e3 k sy[k] (List.getElem?_eq_getElem hlt));have HRN:=(show Hid _ from hRk.out.trans (JC vs (be.map Ex.xs) sy acc k hlt ha));have HSF:=(show Hid _ from fun w1 h1=>EU b vs be H sy[k] w1 h1 (by omega));clear hRk e3;generalize sy[k]=y at *
    rcases hp:oF vs y with _ | p
    ·have HRM:Hid (R=jX vs (be.map Ex.xs) (sy.drop (k+1)) (acc++[y])):=by show _=_;rw[HRN.out];simp[Dl,hp]
     have hO4:=hO.moved (fun x hx=>((ab.refl [] wr).alloc (.cells #[.string y] 9)).block x (hO.lt hx) (by simp));clear HRN
     go_upto_region 7 with (go_at_call 278;refine(HSF.out _ hS).mono ?_;rintro e w3 ⟨rfl,hw3⟩;rw[hw3,hp];simp only[nK])
     go_wp2_with (at_builtin;refine aM _ rfl (.tmp 27) (.tmp 32) 61 rfl i0 (.string ⟨#[]⟩) 16 hd (aD acc) Tryz.underlying61 hi hz0 hz1 hz2 rfl Nat.one_pos rfl (by exact hO4) ⟨_,0,none⟩ 1 1 [.string y] rfl rfl ?d1 ?d2 Nat.one_pos ?d3 ?d4 ?_)
     case d1=>intro j u hj;match j,hj with | 0,hj=>simp at hj;subst hj;simp[Addr.add]
     case d2=>intro u hu;simp at hu;subst hu;rfl
     case d3=>simp only[aD];unfold maxLen;omega
     case d4=>simp only[aD];omega
     intro g5 cap5 w5 hw5 hgr5 hfresh5;rw[dV acc y]at hw5;have hK4:=hK.alloc (.cells #[.string y] 9);have hK5:=hK4.grown hgr5 hN
     have hg5:w.heap.size<=g5:=by
      rcases hfresh5 with e | e
      ·exact hN g5 e
      ·have:=hK4.size;simp at e this;omega
     have hEl:Hid ((aD acc).n+1=(acc++[y]).length):=by show _=_;simp[aD]
     rw[hEl.out];clear hgr5 hfresh5 hO4;go_wp2
     go_roundg (sy.length-(k+1))
     case measure=>omega
     case rel=>exact⟨k+1,⟨some ⟨g5,0,none⟩,cap5⟩,acc++[y],by omega,rfl,by go_num,rfl,by simp;omega,HRM.out,hw5,by intro x hx;simp[Hd.blk]at hx;omega,hK5⟩
    ·have hpl:p<vs.length:=by
      have:=List.mem_of_find?_eq_some hp;simpa using this
     have hle:=h.len;have hpb:p<be.length:=by omega
     have HRM:Hid (R=jX vs (be.map Ex.xs) (sy.drop (k+1)) (acc++be[p].xs)):=by show _=_;rw[HRN.out];simp[Dl,hp,hpb]
     have hex:=hS.exs be[p] (List.getElem_mem hpb);have hxl:=hbl be[p] (List.getElem_mem hpb);obtain⟨ad,had⟩:=hex.adr;have hnc:=hex.view.cells had;obtain⟨s0,s1⟩:=hS.cells;have hOB:aA wr (H 1) (fn be):=hS.bag.own 1
     rcases hOB.ways with ⟨_,h0,_⟩ | ⟨gb,curb,eb,-,eb3,-⟩
     ·have:be.length=0:=h0
      omega
     have cb:=hOB.cell eb p (tF be[p]) (pR be p hpb);have hcpb:be.length<=(H 1).cap:=eb3;rw[eb]at s1;unfold tF at cb;rw[had]at cb;have HNC:=(show Hid _ from hnc);clear HRN hex had hnc hOB eb;generalize be[p]=ex at *;obtain⟨exh,exs⟩:=ex;simp only at cb hxl HRM HNC
     go_upto_region 8 with (go_at_call 278;refine(HSF.out _ hS).mono ?_;rintro e w3 ⟨rfl,hw3⟩;rw[hw3,hp];simp only[nK])
     go_wp2_with (at_builtin;refine qy _ rfl (.tmp 34) (.tmp 41) 61 rfl i0 (.string ⟨#[]⟩) 16 hd (aD acc) Tryz.underlying61 hi hz0 hz1 hz2 rfl Nat.one_pos rfl (by exact hO) ad exs.length exh.cap (dO exs) rfl (by simp[dO,aD]) HNC.out ?d2 ?d3 ?d4 ?_)
     case d2=>intro u hu;simp[dO]at hu;obtain⟨_,_,rfl⟩:=hu;rfl
     case d3=>simp only[aD];unfold maxLen;omega
     case d4=>simp only[aD];omega
     intro hd5 w5 hw5 hgr5 hfresh5;rw[EO acc exs]at hw5;have hK5:=hK.grown hgr5 hN
     have hg5:∀x,hd5.blk=some x->w.heap.size<=x:=by
      intro x hx
      rcases hfresh5 with e | e
      ·exact hN x (e ▸ hx)
      ·rw[e]at hx;cases hx;exact hK.size
     have hEl:Hid ((aD acc).n+exs.length=(acc++exs).length):=by show _=_;simp[aD]
     rw[hEl.out];clear hgr5 hfresh5;go_wp2
     go_roundg (sy.length-(k+1))
     case measure=>omega
     case rel=>exact⟨k+1,hd5,acc++exs,by omega,rfl,by go_num,rfl,by simp;omega,HRM.out,hw5,hg5,hK5⟩
   ·have hai:¬(acc.length:Int)<=32:=by omega
    have HRM:Hid (acc=R):=(hRk.out.trans (EH _ _ _ _ ha)).symm;clear hRk e3;go_wp2;go_ret;exact⟨hd,by rw[<-HRM.out];rfl,by rw[<-HRM.out];exact hO,hN,hK⟩
  ·have HRM:Hid (acc=R):=(hRk.out.trans (GZ _ _ _ _ _ hlt)).symm
   clear hRk e3;go_wp2;go_ret;exact⟨hd,by rw[<-HRM.out];rfl,by rw[<-HRM.out];exact hO,hN,hK⟩
def lB(s:St)(e:List ByteArray)(S:List ByteArray×List (List ByteArray)):Int×List ByteArray×List (List ByteArray) :=
 if(s.kind==3)=true then(if Ab (ma S.1 S.2 s.symbols) e=true then(0,S) else(8,S))
 else match e with
  | []=>(7,S)
  | x :: r=>if(x.toList==(gj s).toList)=true then(0,S.1++[a8 s],S.2++[r]) else(7,S)
structure oU(w:World)(b:Nat)(H:Nat->Hd)(h:Hd)(l:List ByteArray):Prop where
 view:jh w h l
 far:∀x,h.blk=some x->x<w.heap.size/\x≠b/\¬fm H x
theorem oU.still{w w':World}{b:Nat}{H:Nat->Hd}{h:Hd}{l:List ByteArray}(f:oU w b H h l)(k:ab [] w w'):oU w' b H h l :=
 ⟨f.view.still k,fun x hx=>⟨Nat.lt_of_lt_of_le (f.far x hx).1 k.size,(f.far x hx).2⟩⟩
def hZ(g off cap:Nat)(r:List ByteArray):Ex:=⟨⟨if cap=1 then some ⟨g,off,none⟩ else some ⟨g,off+1,none⟩,cap-1⟩,r⟩
theorem If(g off cap:Nat)(r:List ByteArray):(hZ g off cap r).hd.blk=some g:=by unfold hZ Hd.blk;simp only;split <;> rfl
theorem JO{w:World}{b g off:Nat}{H:Nat->Hd}{x:ByteArray}{r:List ByteArray}(cap:Nat)(h:oU w b H ⟨some ⟨g,off,none⟩,cap⟩ (x :: r)):xS w b H (hZ g off cap r):=by
 have hb:(hZ g off cap r).hd.blk=some g:=by unfold hZ Hd.blk;simp only;split <;> rfl
 refine⟨?_,?_,fun y hy=>h.far y (by rw[hb]at hy;exact hy)⟩
 ·by_cases hr:r=[]
  ·subst hr;exact Or.inl rfl
  ·rcases h.view with hv | ⟨g',off',cur,t,e1,e2,e3,e4,e5⟩
   ·cases hv
   ·cases e1
    have hl:0<r.length:=List.length_pos_iff.2 hr;simp only[List.length_cons]at e4;refine Or.inr ⟨g,off+1,cur,t,by simp only[hZ];rw[if_neg (by omega)],e2,fun j y hy=>?_,by simp only[hZ];omega,by simp only[hZ]at e5 ⊢;omega⟩;have:=e3 (j+1) y (by simpa [hZ] using hy);rw[show off+1+j=off+(j+1) by omega];exact this
 ·unfold hZ
  simp only
  split
  ·exact⟨_,rfl⟩
  ·exact⟨_,rfl⟩
set_option maxRecDepth 100000 in
theorem IU(b:Nat)(vs:List ByteArray)(be:List Ex)(H:Nat->Hd)(s:St)(ha hb he:Hd)(ex:List ByteArray)(w:World)(h:kI w b vs be H)(hl:vs.length<=9999)(hbl:∀e∈be,e.xs.length<=10000)
  (hs:jh w ha s.symbols) (hsl:s.symbols.length<=10000) (hx:oU w b H he ex) (hxl:ex.length<=10000) :
  Calls Tryz.prog 272 #[.pointer (some ⟨b,0,none⟩),eI s ha hb,.slice he.ao ex.length he.cap] w fun e w'=>∃(be':List Ex) (H':Nat->Hd),
   e=.returned (.int .i64 (lB s ex (vs,be.map Ex.xs)).1)/\kI w' b (lB s ex (vs,be.map Ex.xs)).2.1 be' H'/\be'.map Ex.xs=(lB s ex (vs,be.map Ex.xs)).2.2/\aw b w H w' H'/\∀e∈be',e∈be∨e.hd.blk=he.blk:=by
 obtain⟨i0,hi,hz0,hz1,hz2⟩:=info_parts jI;obtain⟨i1,hi1,hy0,hy1,hy2⟩:=info_parts Gv;have hle:be.length<=9999:=by have:=h.len;omega
 unfold eI;obtain⟨W,hW⟩:∃W,W=w.alloc (.cells #[.int .i64 s.kind,.string s.label,.slice ha.ao s.symbols.length ha.cap,.slice hb.ao s.proof.length hb.cap,.string s.fin.file,.int .i64 s.fin.line,.int .i64 s.fin.col,.int .i64 s.til] 158):=⟨_,rfl⟩
 have K:ab [] w W:=by rw[hW];exact(ab.refl [] _).alloc _
 have B:W.heap[w.heap.size]?=some (.cells #[.int .i64 s.kind,.string s.label,.slice ha.ao s.symbols.length ha.cap,.slice hb.ao s.proof.length hb.cap,.string s.fin.file,.int .i64 s.fin.line,.int .i64 s.fin.col,.int .i64 s.til] 158 (0,0)):=by rw[hW];exact heap_alloc_new _ _
 have HW:=(show Hid _ from hW.symm);have u0:W.cell? ⟨w.heap.size,0,none⟩=some (.int .i64 s.kind):=by rw[aa B];rfl
 have u1:W.cell? ⟨w.heap.size,1,none⟩=some (.string s.label):=by rw[aa B];rfl
 have u2:W.cell? ⟨w.heap.size,2,none⟩=some (.slice ha.ao s.symbols.length ha.cap):=by rw[aa B];rfl
 have u3:W.cell? ⟨w.heap.size,3,none⟩=some (.slice hb.ao s.proof.length hb.cap):=by rw[aa B];rfl
 have u4:W.cell? ⟨w.heap.size,4,none⟩=some (.string s.fin.file):=by rw[aa B];rfl
 have u5:W.cell? ⟨w.heap.size,5,none⟩=some (.int .i64 s.fin.line):=by rw[aa B];rfl
 have u6:W.cell? ⟨w.heap.size,6,none⟩=some (.int .i64 s.fin.col):=by rw[aa B];rfl
 have u7:W.cell? ⟨w.heap.size,7,none⟩=some (.int .i64 s.til):=by rw[aa B];rfl
 have hS:=h.still K;have hvW:=hs.still K;have hxW:=hx.still K;clear hW
 cases hk:(s.kind==3)
 ·rcases ex with _ | ⟨x,r⟩
  ·have HF:Hid (lB s [] (vs,be.map Ex.xs)=(7,vs,be.map Ex.xs)):=by show _=_;simp[lB,hk]
   clear u1 u2 u3 u4 u5 u6 u7;go_enter Tryz.func272,Tryz.ntmps272
   go_upto_region 1 with fail
   rw[HW.out]
   go_upto_region 5 with fail
   go_quiet (fail)
   go_wp2;go_ret;exact⟨be,H,am (by rw[HF.out]),by rw[HF.out];exact hS.still ((ab.refl [] _).drewN _),by rw[HF.out],(aw.refl _ _ _).still (K.drewN _),fun _ q=>Or.inl q⟩
  ·obtain⟨aoe,cape⟩:=he
   rcases hxW.view with hnil | ⟨g,off,cur,t,e1,e2,e3,e4,e5⟩
   ·cases hnil
   simp only at e1 e4 e5;subst e1;have hlen1:¬((r.length:Int)+1==0)=true:=by simp;omega
   have HN:Hid ((x :: r).length=r.length+1):=rfl;have hlp:(0:Int)<(r.length:Int)+1:=by omega
   have h1le:(1:Int)<=(r.length:Int)+1:=by omega
   rw[HN.out]at *;have cx:W.cell? ⟨g,off,none⟩=some (.string x):=by have:=(aa e2 off).trans (by simpa using e3 0 x rfl);exact this
   have hgW:=ae e2;have TC:=xJ s ha hb;unfold eI at TC;have HTC:=(show Hid _ from TC)
   have HC:Hid (∀w',ab [] W.drew w'->w'.cell? ⟨g,off,none⟩=some (.string x)/\w'.cell? ⟨w.heap.size,0,none⟩=some (.int .i64 s.kind)/\w'.cell? ⟨w.heap.size,1,none⟩=some (.string s.label)/\w'.cell? ⟨w.heap.size,2,none⟩=some (.slice ha.ao s.symbols.length ha.cap)/\w'.cell? ⟨w.heap.size,3,none⟩=some (.slice hb.ao s.proof.length hb.cap)/\w'.cell? ⟨w.heap.size,4,none⟩=some (.string s.fin.file)/\w'.cell? ⟨w.heap.size,5,none⟩=some (.int .i64 s.fin.line)/\w'.cell? ⟨w.heap.size,6,none⟩=some (.int .i64 s.fin.col)/\w'.cell? ⟨w.heap.size,7,none⟩=some (.int .i64 s.til)):=by
    intro w' k;have q:=k.get (show W.drew.heap[w.heap.size]?=_ from B) (by simp);have q2:=k.get (show W.drew.heap[g]?=_ from e2) (by simp);refine⟨(aa q2 off).trans (by simpa using e3 0 x rfl),?_,?_,?_,?_,?_,?_,?_,?_⟩ <;> (rw[aa q];rfl)
   clear TC e3;go_enter Tryz.func272,Tryz.ntmps272
   go_upto_region 1 with fail
   rw[HW.out]
   go_upto_region 5 with fail
   cases hc:(x.toList==(gj s).toList)
   ·have HF:Hid (lB s (x :: r) (vs,be.map Ex.xs)=(7,vs,be.map Ex.xs)):=by show _=_;simp[lB,hk,hc]
    have hc':(x.toList != (gj s).toList)=true:=by simp[bne,hc]
    go_region_held3 (fun w'=>w'.cell? ⟨g,off,none⟩=some (.string x)/\w'.cell? ⟨w.heap.size,0,none⟩=some (.int .i64 s.kind)/\w'.cell? ⟨w.heap.size,1,none⟩=some (.string s.label)/\w'.cell? ⟨w.heap.size,2,none⟩=some (.slice ha.ao s.symbols.length ha.cap)/\w'.cell? ⟨w.heap.size,3,none⟩=some (.slice hb.ao s.proof.length hb.cap)/\w'.cell? ⟨w.heap.size,4,none⟩=some (.string s.fin.file)/\w'.cell? ⟨w.heap.size,5,none⟩=some (.int .i64 s.fin.line)/\w'.cell? ⟨w.heap.size,6,none⟩=some (.int .i64 s.fin.col)/\w'.cell? ⟨w.heap.size,7,none⟩=some (.int .i64 s.til)) (go_keep) (first | (go_at_call 191;refine(HTC.out _ (by exact hvW.still (ab.refl [] _).drew) (by omega)).mono ?_;rintro e w3 ⟨rfl,k3⟩;obtain⟨x0,x1,x2,x3,x4,x5,x6,x7,x8⟩:=HC.out w3 k3))
    all_goals
     clear u0 u1 u2 u3 u4 u5 u6 u7 cx;go_wp2;go_ret;exact⟨be,H,am (by rw[HF.out]),by rw[HF.out];exact hS.still (((ab.refl [] _).drew).trans k3),by rw[HF.out],(aw.refl _ _ _).still (K.drew.trans k3),fun _ q=>Or.inl q⟩
   ·have HF:Hid (lB s (x :: r) (vs,be.map Ex.xs)=(0,vs++[a8 s],be.map Ex.xs++[r])):=by show _=_;simp[lB,hk,hc]
    have hc':(x.toList != (gj s).toList)=false:=by simp[bne,hc]
    have VA:=mZ s ha hb;unfold eI at VA;have HVA:=(show Hid _ from VA);clear VA
    go_region_held3 (fun w'=>w'.cell? ⟨g,off,none⟩=some (.string x)/\w'.cell? ⟨w.heap.size,0,none⟩=some (.int .i64 s.kind)/\w'.cell? ⟨w.heap.size,1,none⟩=some (.string s.label)/\w'.cell? ⟨w.heap.size,2,none⟩=some (.slice ha.ao s.symbols.length ha.cap)/\w'.cell? ⟨w.heap.size,3,none⟩=some (.slice hb.ao s.proof.length hb.cap)/\w'.cell? ⟨w.heap.size,4,none⟩=some (.string s.fin.file)/\w'.cell? ⟨w.heap.size,5,none⟩=some (.int .i64 s.fin.line)/\w'.cell? ⟨w.heap.size,6,none⟩=some (.int .i64 s.fin.col)/\w'.cell? ⟨w.heap.size,7,none⟩=some (.int .i64 s.til)) (go_keep) (first | (go_at_call 191;refine(HTC.out _ (by exact hvW.still (ab.refl [] _).drew) (by omega)).mono ?_;rintro e w3 ⟨rfl,k3⟩;obtain⟨x0,x1,x2,x3,x4,x5,x6,x7,x8⟩:=HC.out w3 k3))
    all_goals
     have hS3:=hS.still (((ab.refl [] _).drew).trans k3);have hb3:=hS3.bag.lt;have hfr:=hS3.bag.free;obtain⟨m0,m1⟩:=hS3.cells;have hv3:=hvW.still (((ab.refl [] _).drew).trans k3);clear u0 u1 u2 u3 u4 u5 u6 u7 cx x0
     go_upto_region 7 with fail
     have s4:Hid ((aD vs).n+1<=maxLen):=by show _<=_;simp only[aD];unfold maxLen;omega
     have s5:Hid (((aD vs).n+1)*16<=140737488355328):=by show _<=_;simp only[aD];omega
     have s3:Hid (∀u∈([.string (a8 s)]:List Value),u.oneCell'=true):=by intro u hu;simp at hu;subst hu;rfl
     have HX4:Hid (∀w4,ab [] w3.drew w4->kI w4 b vs be H/\kI (w4.alloc (.cells #[.string (a8 s)] 9)) b vs be H/\∀j u,([.string (a8 s)]:List Value)[j]?=some u->(w4.alloc (.cells #[.string (a8 s)] 9)).cell? ((⟨w4.heap.size,0,none⟩:Addr).add j)=some u):=by
      intro w4 k;have q:=hS3.still (((ab.refl [] w3).drew).trans k);refine⟨q,q.still ((ab.refl [] _).alloc _),fun j u hj=>?_⟩;have hk:(w4.alloc (.cells #[.string (a8 s)] 9)).heap[w4.heap.size]?=some (.cells #[.string (a8 s)] 9 (0,0)):=heap_alloc_new _ _;rw[bK,aa hk];simpa using hj
     have hrw:Hid (∀j,j≠0->nS (vs++[a8 s]) be j=nS vs be j):=by
      intro j hj
      match j,hj with
      | 0,hj=>exact absurd rfl hj
      | 1,_=>rfl
      | m+2,_=>rfl
     go_region_law (first | (refine ce rfl (.tmp 32) (.tmp 35) 61 rfl i0 (.string ⟨#[]⟩) 16 (H 0) (aD vs) Tryz.underlying61 hi hz0 hz1 hz2 rfl Nat.one_pos (by simp[Act.eval] <;> rfl) (y1.bag.own 0) ⟨_,0,none⟩ 1 1 [.string (a8 s)] (by simp[Act.eval] <;> rfl) rfl y2 s3.out Nat.one_pos s4.out s5.out ?_;intro g5 cap5 w5 hw5 hgr hfresh;obtain⟨k5,f5,HP⟩:=aR.app y1.bag (cs':=mV (vs++[a8 s]) be (fM H 0 ⟨some ⟨g5,0,none⟩,cap5⟩)) (rows':=nS (vs++[a8 s]) be) 0 0 g5 cap5 ((aD vs).n+1) _ hw5 (dV vs (a8 s)) hgr (by simpa using hfresh) hrw.out (.slice (H 0).ao vs.length (H 0).cap) rfl (by simp[mV,fM,aD]);clear hw5 hgr hfresh) | (go_simp;go_at_call 189;refine(HVA.out _ (by exact hv3.still (ab.refl [] _).drew) (by omega)).mono ?_;rintro e w4 ⟨rfl,k4⟩;obtain⟨y0,y1,y2⟩:=HX4.out w4 k4;obtain⟨n0,n1⟩:=y0.cells;obtain⟨p0,p1⟩:=y1.cells))
     all_goals
      generalize hX:w5.setCell ⟨b,0,none⟩ (.slice (some ⟨g5,0,none⟩) ((aD vs).n+1) cap5)=X at HP ⊢;have T5:Hid (aw b w H X (fM H 0 ⟨some ⟨g5,0,none⟩,cap5⟩)):=(((HP.out.2.first ((ab.refl [] _).alloc _)).first (((ab.refl [] w3).drew).trans k4)).first (K.drew.trans k3));have D5:=HP.out.1;have q1:=D5.cell 1;have hf5:=D5.free;have hbX:=D5.lt;simp only[mV,List.getElem?_cons_succ,List.getElem?_cons_zero]at q1;clear hX k5 f5 n0 n1 p0 p1 y0 y1 y2 m0 m1 hfr x1 x2 x3 x4 x5 x6 x7 x8
      go_upto_region 8 with fail
      have hD:Hid (aR (X.alloc (.cells #[tF (hZ g off cape r)] 61)).drew b 343 (mV (vs++[a8 s]) be (fM H 0 ⟨some ⟨g5,0,none⟩,cap5⟩)) (nS (vs++[a8 s]) be) (fM H 0 ⟨some ⟨g5,0,none⟩,cap5⟩)):=D5.still ((ab.refl [] X).alloc _).drew
      have s2:Hid (∀j u,([tF (hZ g off cape r)]:List Value)[j]?=some u->(X.alloc (.cells #[tF (hZ g off cape r)] 61)).drew.cell? ((⟨X.heap.size,0,none⟩:Addr).add j)=some u):=by
       intro j u hj;have hk:(X.alloc (.cells #[tF (hZ g off cape r)] 61)).drew.heap[X.heap.size]?=some (.cells #[tF (hZ g off cape r)] 61 (0,0)):=heap_alloc_new _ _;rw[bK,aa hk];simpa using hj
      have s3':Hid (∀u∈([tF (hZ g off cape r)]:List Value),u.oneCell'=true):=by intro u hu;simp at hu;subst hu;rfl
      have s4':Hid ((fn be).n+1<=maxLen):=by show _<=_;simp only[fn];unfold maxLen;omega
      have s5':Hid (((fn be).n+1)*24<=140737488355328):=by show _<=_;simp only[fn];omega
      have hrw':Hid (∀j,j≠1->nS (vs++[a8 s]) (be++[hZ g off cape r]) j=nS (vs++[a8 s]) be j):=by
       intro j hj
       match j,hj with
       | 0,_=>rfl
       | 1,hj=>exact absurd rfl hj
       | m+2,_=>rfl
      unfold tF at hD s2 s3';simp only[hZ]at hD s2 s3'
      go_region_law (refine ce rfl (.tmp 43) (.tmp 46) 218 rfl i1 (.slice none 0 0) 24 (fM H 0 ⟨some ⟨g5,0,none⟩,cap5⟩ 1) (fn be) Tryz.underlying218 hi1 hy0 hy1 hy2 rfl Nat.one_pos (by simp[Act.eval] <;> rfl) (hD.out.own 1) ⟨X.heap.size,0,none⟩ 1 1 _ (by simp[Act.eval]) rfl s2.out s3'.out Nat.one_pos s4'.out s5'.out ?_;intro g6 cap6 w6 hw6 hgr6 hfresh6;obtain⟨k6,f6,HP6⟩:=aR.app hD.out (cs':=mV (vs++[a8 s]) (be++[hZ g off cape r]) (fM (fM H 0 ⟨some ⟨g5,0,none⟩,cap5⟩) 1 ⟨some ⟨g6,0,none⟩,cap6⟩)) (rows':=nS (vs++[a8 s]) (be++[hZ g off cape r])) 1 1 g6 cap6 ((fn be).n+1) _ hw6 (rg be (hZ g off cape r)) hgr6 (by simpa using hfresh6) hrw'.out (.slice (fM H 0 ⟨some ⟨g5,0,none⟩,cap5⟩ 1).ao be.length (fM H 0 ⟨some ⟨g5,0,none⟩,cap5⟩ 1).cap) rfl (by simp[mV,fM,fn]);clear hw6 hgr6 hfresh6)
      all_goals
       have T6:=(show Hid _ from T5.out.trans (HP6.out.2.first ((ab.refl [] _).alloc _).drew));clear q1 hf5 k6 f6;generalize (if cape=1 then some (⟨g,off,none⟩:Addr) else some ⟨g,off+1,none⟩)=AE;go_wp2;go_ret;refine⟨be++[hZ g off cape r],_,am (by rw[HF.out]),?_,by rw[HF.out];simp[hZ],T6.out,fun e q=>by rw[List.mem_append]at q;rcases q with q | q;exact Or.inl q;simp at q;subst q;exact Or.inr (If g off cape r)⟩;rw[HF.out];refine⟨HP6.out.1,by simp[h.len],?_⟩;intro e hem;rw[List.mem_append]at hem
       rcases hem with hem | hem
       ·exact(h.exs e hem).turned T6.out
       ·simp at hem;subst hem
        exact(JO cape hx).turned T6.out
 ·go_enter Tryz.func272,Tryz.ntmps272
  go_upto_region 1 with fail
  rw[HW.out];have RA:=nP b vs be H ha s.symbols W hS (by omega) hbl hvW hsl;have RL:=EG vs (be.map Ex.xs) 10000 (by omega) (by intro y hy;obtain⟨e,he,rfl⟩:=List.mem_map.1 hy;exact hbl e he) s.symbols;have HF:Hid (lB s ex (vs,be.map Ex.xs)=if Ab (ma vs (be.map Ex.xs) s.symbols) ex=true then(0,vs,be.map Ex.xs) else(8,vs,be.map Ex.xs)):=by show _=_;simp[lB,hk]
  generalize ma vs (be.map Ex.xs) s.symbols=R at *;clear u1 u3 u4 u5 u6 u7;go_wp2_with fail;refine RA.mono ?_;rintro e w2 ⟨hd,rfl,ho,hn,k2⟩;go_wp2_with fail;refine(vH hd he R ex w2 ho.view (hxW.view.still k2) (by omega) (by omega)).mono ?_;rintro e w3 ⟨rfl,k3⟩
  cases heq:Ab R ex
  ·have HF2:Hid (lB s ex (vs,be.map Ex.xs)=(8,vs,be.map Ex.xs)):=by show _=_;rw[HF.out,heq];simp
   clear HF RA;go_wp2;go_ret;exact⟨be,H,am (by rw[HF2.out]),by rw[HF2.out];exact(hS.still k2).still k3,by rw[HF2.out],(aw.refl _ _ _).still ((K.trans k2).trans k3),fun _ q=>Or.inl q⟩
  ·have HF2:Hid (lB s ex (vs,be.map Ex.xs)=(0,vs,be.map Ex.xs)):=by show _=_;rw[HF.out,heq];simp
   clear HF RA;go_wp2;go_ret;exact⟨be,H,am (by rw[HF2.out]),by rw[HF2.out];exact(hS.still k2).still k3,by rw[HF2.out],(aw.refl _ _ _).still ((K.trans k2).trans k3),fun _ q=>Or.inl q⟩
theorem yX(hd:Hd)(l:List Nat)(x:Nat)(w:World)(ho:aA w hd (bq l))(hl:l.length<=1073741824) :
  Calls Tryz.prog 280 #[.slice hd.ao l.length hd.cap,.int .i64 x] w fun e w'=>e=.returned (.bool (iH l x))/\w'=w:=by
 obtain⟨ao,cap⟩:=hd
 rcases ho.ways with ⟨e0,h0,_⟩ | ⟨g,cur,e1,_⟩
 ·have h0':l.length=0:=h0
  have hl0:l=[]:=List.eq_nil_of_length_eq_zero h0';subst hl0;clear ho h0 h0' hl e0;go_enter Tryz.func280,Tryz.ntmps280;go_wp2;refine wp_loop_rounds 1 ?_;rw[rounds_succ];go_wp2;go_ret;exact⟨rfl,rfl⟩
 ·simp only at e1
  subst e1;go_enter Tryz.func280,Tryz.ntmps280;go_wp2
  go_loopg [5] l.length (fun g i wr=>∃k:Nat,k<=l.length/\g=l.length-k/\i=.int .i64 k/\Hid (iH l x=iH (l.drop k) x)/\wr=w)
  case atStart=>exact⟨0,by omega,by omega,rfl,rfl,rfl⟩
  case round =>
   obtain⟨k,hk,hg,rfl,hs,rfl⟩:=hrel
   by_cases hlt:k<l.length
   ·have c1:=ho.cell rfl k (.int .i64 l[k]) (kc l k hlt)
    cases hb:(l[k]==x)
    ·have HM:Hid (iH l x=iH (l.drop (k+1)) x):=vP l x k hlt hs.out hb
     have hb':=(mL l[k] x).trans hb;clear hs ho hb;go_wp2
     go_roundg (l.length-(k+1))
     case measure=>omega
     case rel=>exact⟨k+1,by omega,rfl,by go_num,HM,rfl⟩
    ·have HM:Hid (iH l x=true):=yN l x k hlt hs.out hb
     have hb':=(mL l[k] x).trans hb;clear hs ho hb;go_wp2;go_ret;exact⟨aB HM.out.symm,rfl⟩
   ·have HM:Hid (iH l x=false):=vQ l x k hlt hs.out
    clear hs ho;go_wp2;go_ret;exact⟨aB HM.out.symm,rfl⟩
structure uX(w:World)(b rb ro g n tb:Nat):Prop where
 blk:∃arr t,w.heap[b]?=some (.cells arr t (0,0))/\arr[0]?=some (.pointer (some ⟨rb,ro,none⟩))/\arr[1]?=some (.slice (some ⟨g,0,none⟩) n n)/\arr[2]?=some (.pointer (some ⟨tb,0,none⟩))
theorem uX.still{w w':World}{b rb ro g n tb:Nat}(h:uX w b rb ro g n tb)(k:ab [] w w'):uX w' b rb ro g n tb:=by
 obtain⟨arr,t,h1,h2⟩:=h.blk;exact⟨arr,t,k.get h1 (by simp),h2⟩
theorem uX.cells{w:World}{b rb ro g n tb:Nat}(h:uX w b rb ro g n tb):w.cell? ⟨b,0,none⟩=some (.pointer (some ⟨rb,ro,none⟩))/\w.cell? ⟨b,1,none⟩=some (.slice (some ⟨g,0,none⟩) n n)/\w.cell? ⟨b,2,none⟩=some (.pointer (some ⟨tb,0,none⟩)):=by
 obtain⟨arr,t,h1,h2,h3,h4⟩:=h.blk;exact⟨(aa h1 0).trans h2,(aa h1 1).trans h3,(aa h1 2).trans h4⟩
def nM(vs:List ByteArray):List ByteArray->List Nat->List Nat
 | [],acc=>acc
 | x :: r,acc=>match oF vs x with
  | none=>nM vs r acc
  | some p=>if iH acc p=true then nM vs r acc else nM vs r (acc++[p])
def jB(vs xs:List ByteArray):List Nat:=nM vs xs []
theorem Ju(vs xs:List ByteArray)(acc:List Nat)(k:Nat)(hk:k<xs.length):nM vs (xs.drop k) acc=match oF vs xs[k] with
  | none=>nM vs (xs.drop (k+1)) acc
  | some p=>if iH acc p=true then nM vs (xs.drop (k+1)) acc else nM vs (xs.drop (k+1)) (acc++[p]):=by
 rw[List.drop_eq_getElem_cons hk];rfl
theorem GP(vs xs:List ByteArray)(acc:List Nat)(k:Nat)(hk:¬k<xs.length):nM vs (xs.drop k) acc=acc:=by
 rw[List.drop_of_length_le (by omega)];rfl
theorem zm(vs xs:List ByteArray)(acc:List Nat)(h:∀p∈acc,p<vs.length):(∀p∈nM vs xs acc,p<vs.length)/\(nM vs xs acc).length<=acc.length+xs.length:=by
 induction xs generalizing acc with
 | nil=>exact⟨h,by simp[nM]⟩
 | cons x r ih =>
  rw[nM]
  split
  ·have:=ih acc h;exact⟨this.1,by simp;omega⟩
  ·next p hp =>
   split
   ·have:=ih acc h;exact⟨this.1,by simp;omega⟩
   ·have:=ih (acc++[p]) (by intro q hq;simp at hq;rcases hq with hq | rfl;exact h q hq;exact CS hp)
    exact⟨this.1,by have h2:=this.2;simp at h2 ⊢;omega⟩
theorem Fi{vs xs:List ByteArray}{p:Nat}(h:p∈jB vs xs):p<vs.length:=(zm vs xs [] (by simp)).1 p h
theorem Ce(vs xs:List ByteArray):(jB vs xs).length<=xs.length:=by have:=(zm vs xs [] (by simp)).2;unfold jB;simpa using this
set_option maxRecDepth 100000 in
theorem t7(b rb ro g n tb:Nat)(vs:List ByteArray)(ms:List Bool)(hv hm hw:Hd)(ws:List ByteArray)(w:World)(hp:uX w b rb ro g n tb)(h:jC w tb vs ms hv hm)(hl:vs.length<=1073741824)(hvw:jh w hw ws)(hwl:ws.length<=1000000) :
  Calls Tryz.prog 279 #[.pointer (some ⟨b,0,none⟩),.slice hw.ao ws.length hw.cap] w fun e w'=>∃hd:Hd,e=.returned (.slice hd.ao (jB vs ws).length hd.cap)/\aA w' hd (bq (jB vs ws))/\(∀x,hd.blk=some x->w.heap.size<=x)/\ab [] w w':=by
 obtain⟨i0,hi,hz0,hz1,hz2⟩:=info_parts vS;obtain⟨ao,cap⟩:=hw
 rcases hvw with rfl | ⟨gv,off,cur,t,e1,e2,e3,e4,e5⟩
 ·clear hwl
  go_enter Tryz.func279,Tryz.ntmps279;go_wp2;refine wp_loop_rounds 1 ?_;rw[rounds_succ];go_wp2;go_ret;exact⟨⟨none,0⟩,rfl,World.ownsRow_nil _ _ _ _,by intro x hx;simp[Hd.blk]at hx,ab.refl _ _⟩
 simp only at e1 e4 e5;subst e1;obtain⟨R,HR⟩:∃R,Hid (R=jB vs ws):=⟨_,rfl⟩
 rw[<-HR.out];go_enter Tryz.func279,Tryz.ntmps279;go_wp2
 go_loopg [5,6] ws.length (fun gk sv i wr=>∃(k:Nat) (hd:Hd) (acc:List Nat),k<=ws.length/\gk=ws.length-k/\i=.int .i64 k/\sv=.slice hd.ao acc.length hd.cap/\acc.length<=k/\Hid (R=nM vs (ws.drop k) acc)/\aA wr hd (bq acc)/\(∀x,hd.blk=some x->w.heap.size<=x)/\ab [] w wr)
 case atStart=>exact⟨0,⟨none,0⟩,[],by omega,by omega,rfl,rfl,by simp,HR.out,World.ownsRow_nil _ _ _ _,by intro x hx;simp[Hd.blk]at hx,ab.refl _ _⟩
 case round =>
  obtain⟨k,hd,acc,hk,hg,rfl,rfl,hal,hRk,hO,hN,hK⟩:=hrel;have hr:=h.still hK;obtain⟨p0,p1,p2⟩:=(hp.still hK).cells
  by_cases hlt:k<ws.length
  ·have c2:wr.cell? ⟨gv,off+k,none⟩=some (.string ws[k]):=(aa (hK.get e2 (by simp)) (off+k)).trans (e3 k ws[k] (List.getElem?_eq_getElem hlt))
   have hli:(k:Int)<ws.length:=by omega
   have HRN:=(show Hid _ from hRk.out.trans (Ju vs ws acc k hlt));have HPA:=(show Hid _ from fun w1 (k1:ab [] wr w1)=>qh tb vs ms hv hm ws[k] w1 (hr.still k1) hl);clear hRk e3 p0 p1;generalize ws[k]=y at *
   rcases hpo:oF vs y with _ | p
   ·have HT:Hid (R=nM vs (ws.drop (k+1)) acc):=by show _=_;rw[HRN.out,hpo]
    rw[hpo]at HPA;simp only[nK]at HPA;clear HRN
    go_upto_region 5 with fail
    go_quiet ((go_at_call 260;exact Calls.quiet_of_same (HPA.out _ ((ab.refl [] _).drewN _))))
    go_wp2
    go_roundg (ws.length-(k+1))
    case measure=>omega
    case rel=>exact⟨k+1,hd,acc,by omega,rfl,by go_num,rfl,by omega,HT.out,hO.moved (fun x hx=>((ab.refl [] wr).drewN _).block x (hO.lt hx) (by simp)),hN,hK.drewN _⟩
   ·rw[hpo]at HPA
    simp only[nK]at HPA;have hge:(p:Int) ≥ 0:=by omega
    go_upto_region 5 with fail
    go_quiet ((go_at_call 260;exact Calls.quiet_of_same (HPA.out _ ((ab.refl [] _).drewN _))))
    obtain⟨wq,hwq⟩:∃wq,wq=wr.drewN nq:=⟨_,rfl⟩
    rw[<-hwq];have hOq:aA wq hd (bq acc):=by rw[hwq];exact hO.moved (fun x hx=>((ab.refl [] wr).drewN _).block x (hO.lt hx) (by simp))
    have hKq:ab [] w wq:=by rw[hwq];exact hK.drewN _
    clear hwq
    cases hh:iH acc p
    ·have HT:Hid (R=nM vs (ws.drop (k+1)) (acc++[p])):=by show _=_;rw[HRN.out,hpo];simp[hh]
     have hO4:=hOq.moved (fun x hx=>((ab.refl [] wq).alloc (.cells #[.int .i64 p] 3)).block x (hOq.lt hx) (by simp));clear HRN
     go_upto_region 7 with (go_at_call 280;refine(yX hd acc p _ (by exact hOq) (by omega)).mono ?_;rintro e w7 ⟨rfl,hw7⟩;rw[hw7,hh])
     go_wp2_with (at_builtin;refine aM _ rfl (.tmp 31) (.tmp 33) 26 rfl i0 (.int .i64 0) 8 hd (bq acc) Tryz.underlying26 hi hz0 hz1 hz2 rfl Nat.one_pos rfl (by exact hO4) ⟨_,0,none⟩ 1 1 [.int .i64 p] rfl rfl ?d1 ?d2 Nat.one_pos ?d3 ?d4 ?_)
     case d1=>intro j u hj;match j,hj with | 0,hj=>simp at hj;subst hj;simp[Addr.add]
     case d2=>intro u hu;simp at hu;subst hu;rfl
     case d3=>simp only[bq];unfold maxLen;omega
     case d4=>simp only[bq];omega
     intro g5 cap5 w5 hw5 hgr5 hfresh5;rw[kV acc p]at hw5;have hK4:=hKq.alloc (.cells #[.int .i64 p] 3);have hK5:=hK4.grown hgr5 hN
     have hg5:w.heap.size<=g5:=by
      rcases hfresh5 with e | e
      ·exact hN g5 e
      ·have:=hK4.size;simp at e this;omega
     have hEl:Hid ((bq acc).n+1=(acc++[p]).length):=by show _=_;simp[bq]
     rw[hEl.out];clear hgr5 hfresh5 hO4;go_wp2
     go_roundg (ws.length-(k+1))
     case measure=>omega
     case rel=>exact⟨k+1,⟨some ⟨g5,0,none⟩,cap5⟩,acc++[p],by omega,rfl,by go_num,rfl,by simp;omega,HT.out,hw5,by intro x hx;simp[Hd.blk]at hx;omega,hK5⟩
    ·have HT:Hid (R=nM vs (ws.drop (k+1)) acc):=by show _=_;rw[HRN.out,hpo];simp[hh]
     clear HRN;go_wp2_with (go_at_call 280;refine(yX hd acc p _ (by exact hOq) (by omega)).mono ?_;rintro e w7 ⟨rfl,hw7⟩;rw[hw7,hh])
     go_roundg (ws.length-(k+1))
     case measure=>omega
     case rel=>exact⟨k+1,hd,acc,by omega,rfl,by go_num,rfl,by omega,HT.out,hOq,hN,hKq⟩
  ·have HT:Hid (acc=R):=(hRk.out.trans (GP vs ws acc k hlt)).symm
   clear hRk e3;go_wp2;go_ret;exact⟨hd,by rw[<-HT.out];rfl,by rw[<-HT.out];exact hO,hN,hK⟩
def uZ(side:Nat)(ms:List Bool)(ones others:List Nat):Bool:=ones.all (fun i=>others.all (fun j=>gQ side ms i j))
theorem IF{side:Nat}{ms:List Bool}{ones others:List Nat}(i j:Nat)(hi:i<ones.length)(hj:j<others.length)(h:gQ side ms ones[i] others[j]=false):uZ side ms ones others=false:=by
 cases e:uZ side ms ones others
 ·rfl
 ·unfold uZ at e
  rw[List.all_eq_true]at e;have:=e _ (List.getElem_mem hi);rw[List.all_eq_true]at this;rw[this _ (List.getElem_mem hj)]at h;cases h
theorem FH{side:Nat}{ms:List Bool}{ones others:List Nat}(h:∀i j (hi:i<ones.length) (hj:j<others.length),gQ side ms ones[i] others[j]=true):uZ side ms ones others=true:=by
 unfold uZ;rw[List.all_eq_true];intro x hx;rw[List.all_eq_true];intro y hy;obtain⟨i,hi,rfl⟩:=List.getElem_of_mem hx;obtain⟨j,hj,rfl⟩:=List.getElem_of_mem hy;exact h i j hi hj
theorem wK(b rb ro g n tb:Nat)(vs:List ByteArray)(ms:List Bool)(hv hm h1 h2:Hd)(ones others:List Nat)(w:World)(hp:uX w b rb ro g n tb)(h:jC w tb vs ms hv hm)(hml:ms.length=vs.length*vs.length)(hvl:vs.length<=10000)
  (o1:aA w h1 (bq ones)) (o2:aA w h2 (bq others)) (hl1:ones.length<=1000000) (hl2:others.length<=1000000) (hin1:∀x∈ones,x<vs.length) (hin2:∀x∈others,x<vs.length) :
  Calls Tryz.prog 277 #[.pointer (some ⟨b,0,none⟩),.slice h1.ao ones.length h1.cap,.slice h2.ao others.length h2.cap] w fun e w'=>e=.returned (.bool (uZ vs.length ms ones others))/\∃m,w'=w.drewN m:=by
 go_enter Tryz.func277,Tryz.ntmps277;go_wp2
 go_loopg [7] ones.length (fun gk i wr=>∃(k m:Nat),k<=ones.length/\gk=ones.length-k/\i=.int .i64 k/\Hid (∀i j (hi:i<ones.length) (hj:j<others.length),i<k->gQ vs.length ms ones[i] others[j]=true)/\Hid (wr=w.drewN m))
 case atStart=>exact⟨0,0,by omega,by omega,rfl,fun i j hi hj h=>by omega,rfl⟩
 case round =>
  obtain⟨k,m,hk,hg,rfl,hall,hwm⟩:=hrel
  by_cases hlt:k<ones.length
  ·go_wp2_with fail
   go_loopg [8] others.length (fun gk2 i2 wr2=>∃(j m2:Nat),j<=others.length/\gk2=others.length-j/\i2=.int .i64 j/\Hid (∀i (hi:i<others.length),i<j->gQ vs.length ms ones[k] others[i]=true)/\Hid (wr2=w.drewN m2))
   case atStart=>exact⟨0,m,by omega,by omega,rfl,fun i hi h=>by omega,hwm⟩
   case round =>
    obtain⟨j,m2,hj,hg2,rfl,hrow,hwm2⟩:=hrel
    by_cases hlj:j<others.length
    ·have K:ab [] w wr:=by rw[hwm2.out];exact(ab.refl [] _).drewN _
     have hA:=h.still K;obtain⟨p0,p1,p2⟩:=(hp.still K).cells
     rcases o1.ways with ⟨_,h0,_⟩ | ⟨ga,ca,ea,ea2,ea3,ea4,-⟩
     ·have:ones.length=0:=h0
      omega
     rcases o2.ways with ⟨_,h0,_⟩ | ⟨gb,cb,eb,eb2,eb3,eb4,-⟩
     ·have:others.length=0:=h0
      omega
     have d1:wr.cell? ⟨ga,k,none⟩=some (.int .i64 ones[k]):=(o1.moved (fun x hx=>K.block x (o1.lt hx) (by simp))).cell ea k (.int .i64 ones[k]) (kc ones k hlt);have d2:wr.cell? ⟨gb,j,none⟩=some (.int .i64 others[j]):=(o2.moved (fun x hx=>K.block x (o2.lt hx) (by simp))).cell eb j (.int .i64 others[j]) (kc others j hlj);have hc1:ones.length<=h1.cap:=ea3;have hc2:others.length<=h2.cap:=eb3;have hi1:(k:Int)<ones.length:=by omega
     have hi2:(j:Int)<others.length:=by omega
     have x1:=hin1 _ (List.getElem_mem hlt);have x2:=hin2 _ (List.getElem_mem hlj);have HNO:=(show Hid _ from IF (side:=vs.length) (ms:=ms) k j hlt hlj)
     have HYE:Hid (gQ vs.length ms ones[k] others[j]=true->∀i (hi:i<others.length),i<j+1->gQ vs.length ms ones[k] others[i]=true):=by
      intro hh i hi hij
      by_cases e:i=j
      ·subst e;exact hh
      ·exact hrow.out i hi (by omega)
     have AP:=fun nq=>vA tb vs ms hv hm ones[k] others[j] (wr.drewN nq) (hA.still ((ab.refl [] _).drewN nq)) hml hvl x1 x2
     obtain⟨ao1,cap1⟩:=h1;obtain⟨ao2,cap2⟩:=h2;simp only at ea eb;subst ea;subst eb;clear hrow hA p0 p1;generalize ones[k]=X at *;generalize others[j]=Y at *;have HAP:=(show Hid _ from AP);clear AP
     cases hb:gQ vs.length ms X Y
     ·have HM:=(show Hid _ from HNO.out hb)
      rw[hb]at HAP;clear HNO HYE hall
      go_upto_region 7 with fail
      go_quiet ((go_at_call 215;exact Calls.quiet_of_same (HAP.out _)))
      go_wp2;go_ret;exact⟨aB HM.out.symm,_,by rw[hwm2.out];exact World.drewN_drewN _ _ _⟩
     ·have HM:=(show Hid _ from HYE.out hb)
      rw[hb]at HAP;clear HNO HYE
      go_upto_region 7 with fail
      go_quiet ((go_at_call 215;exact Calls.quiet_of_same (HAP.out _)))
      go_wp2
      go_roundg (others.length-(j+1))
      case measure=>omega
      case rel=>exact⟨j+1,_,by omega,rfl,by go_num,HM.out,by show _=_;rw[hwm2.out];exact World.drewN_drewN _ _ _⟩
    ·have HN:Hid (∀i j (hi:i<ones.length) (hj:j<others.length),i<k+1->gQ vs.length ms ones[i] others[j]=true):=by
      intro i j' hi hj' hik
      by_cases e:i=k
      ·subst e;exact hrow.out j' hj' (by omega)
      ·exact hall.out i j' hi hj' (by omega)
     clear hrow hall;go_wp2
     go_roundg (ones.length-(k+1))
     case measure=>omega
     case rel=>exact⟨k+1,m2,by omega,rfl,by go_num,HN,hwm2⟩
  ·have HM:Hid (uZ vs.length ms ones others=true):=FH (fun i j hi hj=>hall.out i j hi hj (by omega))
   clear hall;go_wp2;go_ret;exact⟨aB HM.out.symm,m,hwm.out⟩
structure gn(w:World)(g N:Nat)(F:Nat->List Nat)(K:Nat->Hd):Prop where
 arr:∃arr,w.heap[g]?=some (.cells arr 26 (0,0))/\arr.size=N/\∀n,n<N->arr[n]?=some (.slice (K n).ao (F n).length (K n).cap)
 own:∀n,n<N->aA w (K n) (bq (F n))
 off:∀n,n<N->(K n).blk≠some g
theorem gn.still{w w':World}{g N:Nat}{F:Nat->List Nat}{K:Nat->Hd}(h:gn w g N F K)(q:ab [] w w'):gn w' g N F K:=by
 obtain⟨arr,h1,h2,h3⟩:=h.arr;exact⟨⟨arr,q.get h1 (by simp),h2,h3⟩,fun n hn=>(h.own n hn).moved (fun x hx=>q.block x ((h.own n hn).lt hx) (by simp)),h.off⟩
theorem gn.cell{w:World}{g N:Nat}{F:Nat->List Nat}{K:Nat->Hd}(h:gn w g N F K)(n:Nat)(hn:n<N):w.cell? ⟨g,n,none⟩=some (.slice (K n).ao (F n).length (K n).cap):=by
 obtain⟨arr,h1,h2,h3⟩:=h.arr;rw[aa h1];exact h3 n hn
theorem gn.free{w:World}{g N:Nat}{F:Nat->List Nat}{K:Nat->Hd}(h:gn w g N F K)(n:Nat):w.frozen? ⟨g,n,none⟩=false:=by
 obtain⟨arr,h1,h2,h3⟩:=h.arr;exact ak h1 n
theorem gn.lt{w:World}{g N:Nat}{F:Nat->List Nat}{K:Nat->Hd}(h:gn w g N F K):g<w.heap.size:=by
 obtain⟨arr,h1,h2,h3⟩:=h.arr;exact ae h1
def BZ(F:Nat->List Nat)(k:Nat)(v:List Nat):Nat->List Nat:=fun n=>if n=k then v else F n
theorem gn.store{w:World}{g N k:Nat}{F:Nat->List Nat}{K:Nat->Hd}(h:gn w g N F K)(v:List Nat)(hd:Hd)(o:aA w hd (bq v))(hg:hd.blk≠some g) :
  gn (w.setCell ⟨g,k,none⟩ (.slice hd.ao v.length hd.cap)) g N (BZ F k v) (fM K k hd):=by
 obtain⟨arr,h1,h2,h3⟩:=h.arr;refine⟨⟨_,ah h1 _ _,by simpa using h2,?_⟩,?_,?_⟩
 ·intro n hn
  by_cases en:n=k
  ·subst en
   rw[cK];simp[h2,hn,BZ]
  ·rw[bL _ _ _ _ en]
   rw[Array.getElem?_setIfInBounds_ne (by omega)];simp only[BZ,if_neg en];exact h3 n hn
 ·intro n hn
  by_cases en:n=k
  ·subst en
   rw[cK];simp only[BZ,if_pos];exact o.moved (fun x hx=>Below.heap_setCell _ _ _ _ (by rintro rfl;exact hg hx))
  ·rw[bL _ _ _ _ en]
   simp only[BZ,if_neg en];exact(h.own n hn).moved (fun x hx=>Below.heap_setCell _ _ _ _ (by rintro rfl;exact h.off n hn hx))
 ·intro n hn
  by_cases en:n=k
  ·subst en;rw[cK];exact hg
  ·rw[bL _ _ _ _ en];exact h.off n hn
end Go.Proofs.YtpddjjabfbfifaaGreat

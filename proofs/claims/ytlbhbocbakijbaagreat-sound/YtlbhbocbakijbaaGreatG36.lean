import Derived.Deep.Slices
import Derived.Test.YtlbhbocbakijbaaGreatG28
import Derived.Test.YtlbhbocbakijbaaGreatG35
namespace Go.Proofs.YtlbhbocbakijbaaGreat
open Go.RowKit
set_option maxHeartbeats 0
section
open Go.ChangeShapes Go.WideShapes Go.ChangeAt Go.RowKit
open Go.ChangeMaps (open_string shut_string)
structure A7 where
 k:Int
 a:Int
 s:ByteArray
def Gz(o:A7):List Value:=[.int .i64 o.k,.int .i64 o.a,.string o.s]
structure tA(o:A7):Prop where
 k:-9223372036854775808<=o.k/\o.k<=9223372036854775807
 a:-9223372036854775808<=o.a/\o.a<=9223372036854775807
def oB(w:World)(ao:Option Addr)(l:List A7):Prop:=∀(i:Nat) (o:A7),l[i]?=some o->∃b off,ao=some ⟨b,off,none⟩/\b<w.heap.size/\∀(j:Nat) u,(Gz o)[j]?=some u->w.cell? ⟨b,off+i*3+j,none⟩=some u
theorem Fc:Tryz.prog.bytesOf 40=32:=by kernel_rfl
theorem Bu:Tryz.prog.cellsOf 40=3:=by kernel_rfl
theorem Bt:Tryz.prog.cellsOf 3=1:=by kernel_rfl
theorem DJ:Tryz.prog.cellsOf 9=1:=by kernel_rfl
theorem uO:Tryz.prog.underlying 40=some (.struct (Tryz.prog.fieldsOf 40)):=by kernel_rfl
theorem DR:(Tryz.prog.fieldsOf 40).toList.map (fun f=>(f.type,f.offset))=[(3,0),(3,1),(9,2)]:=by kernel_rfl
theorem vQ(i t o:Nat)(h:[(3,0),(3,1),(9,2)][i]?=some (t,o)):∃f,(Tryz.prog.fieldsOf 40)[i]?=some f/\f.type=t/\f.offset=o:=by
 rw[<-DR,List.getElem?_map,Array.getElem?_toList]at h
 cases e:(Tryz.prog.fieldsOf 40)[i]? with
 | none=>rw[e]at h;cases h
 | some f=>rw[e]at h;simp at h;exact⟨f,rfl,h.1,h.2⟩
theorem Gm:(Tryz.prog.fieldsOf 40).size=3:=by kernel_rfl
theorem xO(b off i:Nat):(⟨b,off,none⟩:Addr).add i=⟨b,off+i,none⟩:=by
 simp only[Addr.add]
 split
 ·next h=>subst h;rfl
 ·rfl
set_option maxRecDepth 100000 in
theorem Eq{H:Type}{enc:TypeId×Value->H}{W:World}{n:Nat}{cs:List Value}{x:DataW H×List MemPlace}(h:DataW.trod enc Tryz.prog W 0 (fun _=>true) true n 40 cs=some x) :
  ∃o:A7,cs=Gz o/\(-9223372036854775808<=o.k/\o.k<=9223372036854775807)/\(-9223372036854775808<=o.a/\o.a<=9223372036854775807):=by
 obtain⟨xs,m,-,rfl,hcl,hxl,hf⟩:=DataW.trod_struct uO h;rw[Bu]at hcl;rw[Gm]at hxl
 match cs,hcl,xs,hxl with
 | [v0,v1,v2],_,[y0,y1,y2],_ =>
  obtain⟨f0,e0,t0,q0⟩:=vQ 0 _ _ rfl;obtain⟨f1,e1,t1,q1⟩:=vQ 1 _ _ rfl;obtain⟨f2,e2,t2,q2⟩:=vQ 2 _ _ rfl;have g0:=hf 0 f0 e0;have g1:=hf 1 f1 e1;have g2:=hf 2 f2 e2;rw[t0,q0,Bt]at g0;rw[t1,q1,Bt]at g1;rw[t2,q2,DJ]at g2;obtain⟨n0,c0,d0,w0⟩:=DataW.trod_int Tryz.underlying3 g0;obtain⟨n1,c1,d1,w1⟩:=DataW.trod_int Tryz.underlying3 g1;obtain⟨s2,c2,d2,-⟩:=DataW.trod_string Tryz.underlying9 g2;simp at c0 c1 c2;refine⟨⟨n0,n1,s2⟩,?_,bounds_i64 w0,bounds_i64 w1⟩;rw[c0,c1,c2];rfl
set_option maxRecDepth 100000 in
theorem Ft{H:Type}{enc:TypeId×Value->H}{W:World}{a0:Option Addr}{len0 cap0:Nat}{d0:DataW H}{p0:List MemPlace}{TS:List TypeId}{DS:List (DataW H)}
  (h0:DataW.Trod enc Tryz.prog W 0 (fun _=>true) true 30 (.slice a0 len0 cap0) d0 p0)
  (hsz:(DataW.weightsEach Tryz.prog TS DS).all (·<=reachBytes)=true) (hT:TS[1]?=some 30) (hD:DS[1]?=some d0) :
  ∃l:List A7,l.length=len0/\len0*32<=140737488351232/\(∀o∈l,tA o)/\oB W a0 l:=by
 obtain⟨fuel,hf⟩:=h0
 rcases Go.Deep.open_slice Tryz.underlying30 hf with ⟨hcs,_⟩ | ⟨a,len,cap,m,n,D,Pl,hcs,-,hlc,hcm,hm,hx,hall⟩
 ·simp[Value.cells]at hcs
  obtain⟨rfl,rfl,rfl⟩:=hcs;exact⟨[],rfl,by omega,(fun o ho=>by cases ho),fun i o hi=>by cases hi⟩
 ·simp[Value.cells]at hcs
  obtain⟨rfl,rfl,rfl⟩:=hcs;simp only[if_true]at hm;have hlm:len0<=m:=by omega
  simp only[Prod.mk.injEq]at hx;obtain⟨rfl,-⟩:=hx;have hw1:=sized_slice hsz (j:=1) hT hD Tryz.underlying30;rw[Fc]at hw1;simp only[List.length_map,List.length_range,reachBytes]at hw1
  have each:∀i,i<len0->∃o:A7,tA o/\∀(j:Nat) u,(Gz o)[j]?=some u->W.cell? ((a.add (i*3)).add j)=some u:=fun i hi=>by
   obtain⟨cs,h1,h2⟩:=hall i (by omega);rw[Bu]at h1;obtain⟨-,hl,hc⟩:=World.cells?_some h1;obtain⟨o,ho,r0,r1⟩:=Eq h2;refine⟨o,⟨r0,r1⟩,fun j u hj=>?_⟩;have hj6:j<3:=(List.getElem?_eq_some_iff.1 hj).1;rw[hc j hj6,ho];exact hj
  have each2:Nonempty A7:=⟨⟨0,0,⟨#[]⟩⟩⟩
  have hch:∃f:Nat->A7,∀i,i<len0->tA (f i)/\∀(j:Nat) u,(Gz (f i))[j]?=some u->W.cell? ((a.add (i*3)).add j)=some u:=by
   classical
   refine⟨fun i=>if hi:i<len0 then Classical.choose (each i hi) else Classical.choice each2,fun i hi=>?_⟩;simp only[dif_pos hi];exact Classical.choose_spec (each i hi)
  obtain⟨f,hf2⟩:=hch;refine⟨(List.range len0).map f,by simp,by omega,fun o ho=>?_,fun i o hi=>?_⟩
  ·obtain⟨i,h1,rfl⟩:=List.mem_map.1 ho
   exact(hf2 i (List.mem_range.1 h1)).1
  ·rw[List.getElem?_map]at hi
   have hil:i<len0:=by
    rcases Nat.lt_or_ge i len0 with h | h
    ·exact h
    ·rw[List.getElem?_eq_none (by simp;exact h)]at hi;cases hi
   rw[List.getElem?_range hil]at hi
   cases hi
   have hc:=(hf2 i hil).2;obtain⟨b,off,spot⟩:=a;have hc0:=hc 0 _ rfl;have hspot:spot=none:=by simpa [Addr.add] using World.cell?_spot ((hf2 0 (by omega)).2 0 _ rfl)
   subst hspot;refine⟨b,off,rfl,?_,fun j u hj=>?_⟩
   ·rw[xO,xO]at hc0
    unfold World.cell? at hc0
    split at hc0
    ·next hh=>exact ac hh
    ·cases hc0
   ·have:=hc j u hj
    rw[xO,xO]at this;exact this
def mT:Prop:=∀(ao:Option Addr) (cap:Nat) (l:List ByteArray) (ai:Option Addr) (ci:Nat) (q:List A7) (w:World),l.length<=140737488351232->(∀x,x∈l->x.size<=140737488351232)->q.length*32<=140737488351232->(∀o∈q,tA o)->oB w ai q ->
  (l.length=0∨∃b off,ao=some ⟨b,off,none⟩/\fZ w b off l) ->
  Calls Tryz.prog 4 #[.slice ao l.length cap,.slice ai q.length ci] w fun e w'=>e=.returned (.bool true)/\Below w.heap.size w w'
set_option maxRecDepth 100000 in
theorem uZ(X:mT)(os:Os)(started:os.Started)(H:Type)(enc:TypeId×Value->H) :
  ReturnsInHanded {} Tryz.checked os 4 .any (Rows.soundSpec.pre6 enc Tryz.prog Tryz.f4 Rows.soundRow.domain false) (Rows.soundSpec.post enc Tryz.prog Tryz.f4 false true false false):=by
 refine returnsInHanded_of_change_sized (C:=Tryz.checked) own started (by kernel_rfl) Tryz.func4
  (ChangeSpec.witness6 (enc:=enc) (C:=Tryz.checked) false ⟨#[],#[.slice none 0 0,.slice none 0 0],[]⟩ 8 (by kernel_rfl) (by kernel_rfl) (by kernel_rfl) (by kernel_rfl)) ?_
 intro W base args ds gs before hval0 hW _ hsz0 _;have hsz:(DataW.weightsEach Tryz.prog (Tryz.f4.params.toList++Rows.soundSpec.plain.varTypes Tryz.prog) (ds++gs)).all (·<=reachBytes)=true:=hsz0;have hval:∀(j:Nat) t v,Tryz.f4.params[j]?=some t->args[j]?=some v->Value.okWide Tryz.prog W .any base t v:=hval0
 have hW':=hW;obtain⟨p,q,hA0,hV,rfl,hfz,hnd⟩:=hW;have hA:DataW.TrodAll enc Tryz.prog W 0 (fun _=>true) true Tryz.f4.params.toList args.toList ds p:=hA0;rw[Tryz.params4]at hA hval hsz;obtain⟨v0,v1,d0,d1,p0,p1,rfl,rfl,rfl,h0,h1⟩:=trodAll_two hA;obtain⟨rfl,rfl⟩:=trodVars_none hV;obtain⟨a0,len0,cap0,rfl⟩:=okWide_slice Tryz.underlying22 (hval 0 22 v0 rfl rfl);have k0:=h0;have lt0:∀x∈p0,x.block<W.heap.size:=by obtain⟨m,hm⟩:=k0;exact DataW.trod_lt m _ _ _ hm
 obtain⟨l,hl,hl1,hl2,hl3⟩:=yR h0 hsz rfl rfl;obtain⟨a1,len1,cap1,rfl⟩:=okWide_slice Tryz.underlying30 (hval 1 30 v1 rfl rfl);have k1:=h1;have lt1:∀x∈p1,x.block<W.heap.size:=by obtain⟨m,hm⟩:=k1;exact DataW.trod_lt m _ _ _ hm
 obtain⟨q,hq,hq1,hq2,hq3⟩:=Ft h1 hsz rfl rfl;subst hl;subst hq;clear hA0 hval0;refine(X a0 cap0 l a1 cap1 q W (by omega) hl2 hq1 hq2 hq3 hl3).mono fun e W' ⟨he,bel⟩=>?_
 subst he;exact⟨_,rfl,_,_,_,[],_,[],hW',trodAll_mk1 (shut_bool Tryz.underlying4 _),(trodAll_mk2 (Below.trod yi (by kernel_rfl) (of_decide_eq_true (by kernel_rfl)) k0 bel lt0) (Below.trod yi (by kernel_rfl) (of_decide_eq_true (by kernel_rfl)) k1 bel lt1)),rfl,bel.frame _,fun h=>by cases h⟩
theorem Am(X:mT):Rows.soundRow.holds Tryz.pinned (OpenSpec.ofChange Rows.soundSpec) :=
 OpenClaim.holds_of_wide 4 Tryz.f4 rfl rfl rfl rfl rfl rfl rfl ⟨rfl,rfl,rfl,rfl,rfl⟩ rfl rfl rfl rfl rfl (by kernel_rfl) Tryz.func4 (by kernel_rfl)
  (of_decide_eq_true (by kernel_rfl)) (by unfold Func.isWrapper;first | (rw[if_pos (by decide +kernel)];kernel_rfl) | (rw[if_neg (by decide +kernel)];exact⟨rfl,rfl⟩))
  (fun os started H enc _=>uZ X os started H enc)
end
set_option maxRecDepth 100000 in
theorem xh(b x:Nat)(T:ByteArray)(n:dM)(H:Nat->Hd)(w:World)(hn:bm w b x T (.slice none 0 0) n H)(ok:dH n 1073741824) :
  Calls Tryz.prog 10 #[.pointer (some ⟨b,0,none⟩)] w fun e w'=>e=.returned (.bool true)/\aa [] w w':=by
 have HPR:=(show Hid _ from pP b x T _ n H w hn ok);have hbw:=af.lt hn;have c0:w.cell? ⟨b,0,none⟩=some (.pointer (some ⟨x,0,none⟩)):=by rw[af.cell hn];rfl
 have HS:Hid (∀wx,aa [] w wx->wx.cell? ⟨b,2,none⟩=some (.slice none 0 0)/\b<wx.heap.size):=fun wx q=>by
  have h1:=af.still hn q;exact⟨by rw[af.cell h1];rfl,af.lt h1⟩
 obtain⟨pb,HPB⟩:∃pb,Hid (ik n=pb):=⟨_,rfl⟩
 rw[HPB.out]at HPR;clear hn ok;go_enter Tryz.func10,Tryz.ntmps10
 go_upto_region 2 with (go_at_call 33;refine Calls.mono HPR.out ?_;rintro e2 w1 ⟨rfl,k1⟩)
 clear c0 hbw;go_wp2
 go_loopg [4] 0 (fun gk iv wr=>gk=0/\iv=.int .i64 0/\aa [] w wr)
 case atStart=>exact⟨rfl,rfl,k1⟩
 case round =>
  obtain⟨hg,rfl,hK⟩:=hrel;obtain⟨c2,hb1⟩:=HS.out wr hK;go_wp2;go_ret;exact⟨rfl,hK⟩
theorem Dn{w:World}{b x:Nat}{T:ByteArray}{o:Option Nat}(h:ba w b x T o):bm w b x T (dn o (bj T).length) F0 (fun _=>⟨none,0⟩) where
 blk:=h.blk
 own i:=by
  match i with
  | 0=>exact World.ownsRow_nil _ _ _ _
  | 1=>exact World.ownsRow_nil _ _ _ _
  | 2=>exact World.ownsRow_nil _ _ _ _
  | 3=>exact World.ownsRow_nil _ _ _ _
  | 4=>exact World.ownsRow_nil _ _ _ _
  | i+5=>exact World.ownsRow_nil _ _ _ _
 apart _ _ _:=Or.inl rfl
 off _:=by simp[Hd.blk]
theorem Cr:dH F0 0:=⟨by decide,rfl,rfl,by decide,by decide,by decide,(fun _ h=>by cases h),(fun _ h=>by cases h)⟩
theorem dH.up{n:dM}{N M:Nat}(h:dH n N)(hm:N<=M):dH n M:=⟨h.mod,h.sw,h.cm,Nat.le_trans h.ls hm,Nat.le_trans h.lc hm,Nat.le_trans h.ll hm,h.wb,h.mb⟩
theorem ag.kept0{b:Nat}{w w':World}{H':Nat->Hd}(t:ag b w (fun _=>⟨none,0⟩) w' H'):aa [b] w w' :=
 ⟨t.1.os,t.1.tape,t.1.output,t.1.size,fun k hk hn=>t.1.block k hk (fun c=>c.elim (fun e=>hn (by simp[e])) (fun⟨i,e⟩=>by simp[Hd.blk]at e))⟩
theorem oB.kept{w w':World}{ao:Option Addr}{l:List A7}{S:List Nat}(h:oB w ao l)(k:aa S w w')(hS:∀q,q∈S->w.heap.size<=q):oB w' ao l:=by
 intro i o hi;obtain⟨b,off,e,hb,hc⟩:=h i o hi;exact⟨b,off,e,Nat.lt_of_lt_of_le hb k.size,fun j u hj=>by rw[World.cell?_of_block (k.block b hb (fun hm=>by have:=hS b hm;omega))];exact hc j u hj⟩
def oC(w wr:World)(b x:Nat)(T:ByteArray)(rv:Value)(k:Nat):Prop:=∃n H',bm wr b x T rv n H'/\dH n k/\ag b w (fun _=>⟨none,0⟩) wr H'
theorem oC.turn{w wr:World}{b x:Nat}{T:ByteArray}{rv:Value}{k:Nat}(h:oC w wr b x T rv k)(hk:k<=1073741824)(o:A7)(ho:tA o)(wx:World)(kx:aa [] wr wx) :
  Calls Tryz.prog 9 #[.pointer (some ⟨b,3,none⟩),.agg #[.int .i64 o.k,.int .i64 o.a,.string o.s]] wx fun e w'=>e=.returned (.tuple #[])/\oC w w' b x T rv (k+1):=by
 obtain⟨n,H',h1,h2,h3⟩:=h;refine(Di b x T rv n H' o.k o.a o.s wx (af.still h1 kx) (h2.up hk) ho.a).mono ?_;rintro e w' ⟨he,H2,g1,g2⟩;exact⟨he,_,H2,g1,h2.turn _ _ _ ho.a,(h3.still kx).trans g2⟩
theorem oC.sound{w wr:World}{b x:Nat}{T:ByteArray}{o:Option Nat}{k:Nat}(h:oC w wr b x T (dn o (bj T).length) k)(hk:k<=1073741824)(hW:ba w b x T o)(hx:x≠b)(hT:iq T)(hRp:bj T=[]∨eL w x (b+1) 0 T) :
  Calls Tryz.prog 10 #[.pointer (some ⟨b,0,none⟩)] wr fun e w'=>e=.returned (.bool true)/\aa [] wr w':=by
 obtain⟨n,H',h1,h2,h3⟩:=h;have hK:=h3.kept0
 cases o with
 | none=>exact xh b x T n H' wr h1 (h2.up hk)
 | some gr =>
  have hrw:0<(bj T).length/\w.heap[gr]?=some (.cells (d8 (bj T)).toArray 53 (0,0)):=hW.rows
  rcases hRp with h | ⟨fs,Hr,g,hR,hg,hI,-⟩
  ·rw[h]at hrw;simp at hrw
  ·exact xi b x gr T n H' fs Hr g (bj T).length wr h1 (h2.up hk) hT (hK.get hrw.2 (by have:=(hW.ne gr rfl).1;simpa using this)) (hR.kept hK (by simpa using hx) (by simp;omega) (fun k hk=>by have:=hI k hk;simp;omega)) rfl
set_option maxRecDepth 100000 in
theorem An:mT:=by
 intro ao cap l ai ci q w hl hls hq hqi hqo hc;have HSM:=(show Hid _ from C1 ao cap l w hl hls hc);have HQI:=(show Hid _ from hqi);have HQO:=(show Hid _ from hqo);clear hqi hqo;go_enter Tryz.func4,Tryz.ntmps4;go_wp2_with fail;refine Calls.mono HSM.out ?_;rintro e w1 ⟨⟨r,rfl,hr⟩,hw1⟩;subst hw1
 cases r
 ·go_wp2
  go_ret;exact⟨rfl,Below.refl _ _⟩
 ·obtain⟨hl1,hl2⟩:=hr rfl
  by_cases hqn:1073741824<q.length
  ·have hqz:(1073741824:Int)<(q.length:Int):=by omega
   go_wp2;go_ret;exact⟨rfl,Below.refl _ _⟩
  ·have hqz:¬(1073741824:Int)<(q.length:Int):=by omega
   go_wp2_with fail;refine(wn _).mono ?_;rintro e w0 ⟨rfl,hk0⟩
   have hc0:l.length=0∨∃b off,ao=some ⟨b,off,none⟩/\fZ w0 b off l:=by
    rcases hc with h0 | ⟨b,off,he,hcc⟩
    ·exact Or.inl h0
    ·exact Or.inr ⟨b,off,he,hcc.kept hk0 (by simp)⟩
   have hz0:=hk0.size;go_wp2_with fail;refine(v9 ao cap l _ hl1 hl2 hc0).mono ?_;rintro e w2 ⟨b,x,rfl,⟨la,lb,lc,⟨T,o,hW,hT,hRp⟩,-⟩,hk2⟩;have hk02:aa [] w1 w2:=hk0.trans hk2;have HSO:Hid (oC w2 w2 b x T (dn o (bj T).length) 0):=⟨_,_,Dn hW,Cr,ag.refl _ _ _⟩;have HSD:Hid (∀wr k,k<=1073741824->oC w2 wr b x T (dn o (bj T).length) k->Calls Tryz.prog 10 #[.pointer (some ⟨b,0,none⟩)] wr fun e w'=>e=.returned (.bool true)/\aa [] wr w'):=fun wr k hk h=>h.sound hk hW lc hT hRp
   have HK:Hid (∀wr k,oC w2 wr b x T (dn o (bj T).length) k->aa [b] w1 wr/\b<wr.heap.size):=fun wr k ⟨_,_,g1,_,g3⟩=>⟨(hk02.mono (by simp)).trans g3.kept0,af.lt g1⟩
   have hbz:w1.heap.size<=b:=by omega
   generalize dn o (bj T).length=rv at *;clear hW hT hRp hc0;go_wp2
   go_loopg [9] q.length (fun g i wr=>∃k:Nat,k<=q.length/\g=q.length-k/\i=.int .i64 k/\Hid (oC w2 wr b x T rv k))
   case atStart=>exact⟨0,by omega,by omega,rfl,HSO⟩
   case round =>
    obtain⟨k,hk,hg,rfl,HM⟩:=hrel;obtain⟨hkr,hbr⟩:=HK.out _ _ HM.out;have HKR:=(show Hid _ from hkr);clear hkr
    by_cases hlt:k<q.length
    ·have hki:(k:Int)<(q.length:Int):=by omega
     obtain⟨g0,off,rfl,hg0,hcl⟩:=(oB.kept HQO.out HKR.out (by intro z hz;simp at hz;omega)) k _ (List.getElem?_eq_getElem hlt);have c0:=hcl 0 _ rfl;have c1:=hcl 1 _ rfl;have c2:=hcl 2 _ rfl;rw[Nat.add_zero]at c0
     have HC:Hid (∀w3,oC w2 w3 b x T rv (k+1)->w3.cell? ⟨g0,off+k*3,none⟩=some (.int .i64 q[k].k)/\w3.cell? ⟨g0,off+k*3+1,none⟩=some (.int .i64 q[k].a)/\w3.cell? ⟨g0,off+k*3+2,none⟩=some (.string q[k].s)):=fun w3 h3=>by
      obtain⟨g1,off1,e1,-,hcl1⟩:=(oB.kept HQO.out (HK.out _ _ h3).1 (by intro z hz;simp at hz;omega)) k _ (List.getElem?_eq_getElem hlt)
      cases e1
      exact⟨hcl1 0 _ rfl,hcl1 1 _ rfl,hcl1 2 _ rfl⟩
     have HST:=(show Hid _ from oC.turn HM.out (by omega) q[k] (HQI.out _ (List.getElem_mem hlt)));generalize q[k]=op at *;clear hcl HM
     go_upto_region 9 with fail
     go_region_held3 (fun w'=>w'.cell? ⟨g0,off+k*3,none⟩=some (.int .i64 op.k)/\w'.cell? ⟨g0,off+k*3+1,none⟩=some (.int .i64 op.a)/\w'.cell? ⟨g0,off+k*3+2,none⟩=some (.string op.s)) (go_keep) ((go_at_call 9;refine Calls.mono (HST.out _ (by exact(aa.refl [] _).drew)) ?_;rintro e3 w3 ⟨rfl,h3⟩;obtain⟨x0,x1,x2⟩:=HC.out w3 h3))
     go_wp2
     go_roundg (q.length-(k+1))
     case measure=>omega
     case rel=>exact⟨k+1,by omega,rfl,by go_num,h3⟩
    ·have hnn:¬(k:Int)<(q.length:Int):=by omega
     have HSS:=(show Hid _ from HSD.out wr k (by omega) HM.out);clear HM;go_wp2_with (go_at_call 10;refine Calls.mono HSS.out ?_;rintro e3 w3 ⟨rfl,h3⟩);go_ret;refine⟨rfl,?_⟩;have hkk:aa [b] w1 w3:=HKR.out.trans (h3.mono (by simp));exact⟨hkk.os,hkk.tape,hkk.output,hkk.size,fun k hk'=>hkk.block k hk' (by simp;omega)⟩
theorem sound_holds:Rows.SoundSaid:=Am An
end Go.Proofs.YtlbhbocbakijbaaGreat

import Derived.BigQuiet
import Derived.Maps.AppendAt
import Derived.Test.YtlbhbocbakijbaaGreatG14
namespace Go.Proofs.YtlbhbocbakijbaaGreat
open Go.RowKit
set_option maxHeartbeats 0
def qR(p:Pl):Prop:=(-1000000000<=p.col/\p.col<=1000000000)/\dI p
structure Gd(d:Db)(m:Nat):Prop where
 bnd:iI d m
 now:fX d.proof<=m/\∀x∈d.proof,qR x.2
 sts:∀s∈d.sts,0<s.symbols.length/\s.symbols.length<=m/\s.proof.length<=m/\fX s.proof<=m/\(∀x∈s.proof,qR x.2)/\qR s.fin
theorem xf(l:List (ByteArray×Pl))(x:ByteArray×Pl):fX (l++[x])=fX l+x.1.size:=by
 simp[fX]
theorem wF{l:List St}{b:Nat}{s:St}(h:s∈cr l b):∃s'∈l,s.symbols=s'.symbols/\s.proof=s'.proof/\s.fin=s'.fin:=by
 unfold cr cU at h;rw[List.mem_mapIdx]at h;obtain⟨i,hi,rfl⟩:=h;refine⟨l[i],List.getElem_mem hi,?_⟩
 split
 ·unfold eW;split <;> exact⟨rfl,rfl,rfl⟩
 ·exact⟨rfl,rfl,rfl⟩
theorem Gd.take{d:Db}{m:Nat}(h:Gd d m)(x:ByteArray)(p:Pl)(n:Nat)(hx:x.size<=n)(h1:1<=n)(hc:qR p):Gd (aS d x p).2 (m+n):=by
 have hb:=(h.bnd.take x p).mono (m':=m+n) (by omega);have hp:=h.bnd.proof;have hsy:=h.bnd.constants;refine⟨hb,?_,?_⟩
 ·rcases xo d x p with e | e | e
  ·rw[e];exact⟨by have:=h.now.1;omega,h.now.2⟩
  ·rw[e];exact⟨by simp[fX],by simp⟩
  ·rw[e]
   refine⟨by rw[xf];have:=h.now.1;simp only;omega,fun y hy=>?_⟩
   rcases List.mem_append.1 hy with hy | hy
   ·exact h.now.2 y hy
   ·rw[List.mem_singleton.1 hy];exact hc
 ·rcases vj d x p with e | ⟨y,_,e⟩ | ⟨e,hpos⟩
  ·rw[e]
   intro s hs;obtain⟨a1,a2,a3,a4,a5⟩:=h.sts s hs;exact⟨a1,by omega,by omega,by omega,a5⟩
  ·rw[e]
   intro s hs;obtain⟨s',hs',e1,e2,e3⟩:=wF hs;obtain⟨a1,a2,a3,a4,a5⟩:=h.sts s' hs';rw[e1,e2,e3];exact⟨a1,by omega,by omega,by omega,a5⟩
  ·rw[e]
   intro s hs
   rcases List.mem_append.1 hs with hs | hs
   ·obtain⟨a1,a2,a3,a4,a5⟩:=h.sts s hs
    exact⟨a1,by omega,by omega,by omega,a5⟩
   ·rw[List.mem_singleton.1 hs]
    exact⟨hpos,by simp only;omega,by simp only;omega,by have:=h.now.1;simp only;omega,h.now.2,hc⟩
theorem Gd.empty:Gd bh 0:=⟨iI.empty,by simp[bh,fX],by simp[bh]⟩
theorem p9(d:ByteArray)(k:Nat)(hk:k<=d.size):(aH d k).1.text.size<=(aH d k).2-k/\(aH d k).1.pos<=d.size:=by
 have a:=iY d k hk;have b:=fR d (skip d k) a.2;unfold aH;simp only
 split
 ·exact⟨by simp[ByteArray.size],b.2⟩
 ·split
  ·exact⟨by simp[ByteArray.size],by simp only;omega⟩
  ·refine⟨?_,by simp only;omega⟩
   simp only[ByteArray.size_extract];omega
theorem oJ(d:ByteArray)(k:Nat)(hk:k<=d.size):(aB d k).1.pos<=d.size:=by
 unfold aB;generalize d.size-k+1=f
 induction f generalizing k with
 | zero=>simp[bw,hk]
 | succ f ih =>
  have rp:=(p9 d k hk).2;have rl:=dR d k hk;rw[bw]
  split
  ·split
   ·exact rp
   ·exact ih (aH d k).2 rl.2.1
  ·split
   ·exact rp
   ·exact rp
theorem wG(d:ByteArray)(k:Nat)(hk:k<=d.size):(aA (ak d k).1=true->(ak d k).1.text.size<=(ak d k).2-k)/\(ak d k).1.pos<=d.size:=by
 unfold ak;generalize d.size-k+1=f
 induction f generalizing k with
 | zero=>exact⟨fun h=>by simp[cn,aA]at h,by simp[cn,hk]⟩
 | succ f ih =>
  have rp:=p9 d k hk;have rl:=dR d k hk;rw[cn]
  split
  ·have cl:=dJ d (aH d k).2 rl.2.1
   have cp:=oJ d (aH d k).2 rl.2.1
   split
   ·have:=ih _ cl.2
    exact⟨fun h=>by have:=this.1 h;omega,this.2⟩
   ·next hc=>exact⟨fun h=>absurd h hc,cp⟩
  ·exact⟨fun _=>rp.1,rp.2⟩
theorem Bw(n s:ByteArray)(p:Nat)(hp:p<=1024):qR (eT n s p):=by
 have h1:=Bx s p;have h2:=ou s p;unfold qR dI eT;simp only;omega
def Dz(fs:Fs)(bg:List Bool)(m:Nat)(r:Du):Prop :=
 r.2.1.length=4/\cI fs r.2.1<=cI fs bg/\∃m',Gd r.2.2 m'/\m'+cI fs r.2.1<=m+cI fs bg
theorem yW(fs:Fs)(hsz:∀j,j<fs.length->(aj fs j).size<=1024)(x:Nat):(aj fs x).size<=1024:=by
 rcases Nat.lt_or_ge x fs.length with h | h
 ·exact hsz x h
 ·have:(aj fs x).size=0:=by unfold aj;rw[List.getD_eq_getElem?_getD,List.getElem?_eq_none h];rfl
  omega
theorem At(fs:Fs)(hsz:∀j,j<fs.length->(aj fs j).size<=1024)(f:Nat)(IH:∀j bg d m,bg.length=4->Gd d m->Dz fs bg m (bJ fs f j bg d))(x k:Nat)(bg:List Bool)(d:Db)(m:Nat)(hk:k<=(aj fs x).size)(hl:bg.length=4)(hB:Gd d m)(hw:aA (ak (aj fs x) k).1=true) :
  Dz fs bg (m+((ak (aj fs x) k).2-k)) (eo fs f x k bg d).1/\(ak (aj fs x) k).2<=(eo fs f x k bg d).2/\(eo fs f x k bg d).2<=(aj fs x).size:=by
 have nl:=cT (aj fs x) k hk;have nl2:=nl.2.2 hw;have nw:=wG (aj fs x) k hk;have h1024:=yW fs hsz x;unfold eo fY
 split
 ·unfold jV
  split
  ·exact⟨⟨hl,Nat.le_refl _,m,hB,by simp only;omega⟩,Nat.le_refl _,nl.2.1⟩
  ·next j z' he =>
   have h2:=IH j bg d m hl hB;refine⟨⟨h2.1,h2.2.1,?_⟩,?_⟩
   ·obtain⟨m',q1,q2⟩:=h2.2.2;exact⟨m',q1,by simp only;omega⟩
   ·unfold wf at he
    have l1:=cT (aj fs x) (ak (aj fs x) k).2 nl.2.1;have l2:=cT (aj fs x) (ak (aj fs x) (ak (aj fs x) k).2).2 l1.2.1
    repeat' split at he
    all_goals first | (cases he;done) | skip
    injection he with he
    injection he with he1 he2
    subst he2;omega
 ·refine⟨⟨hl,Nat.le_refl _,m+((ak (aj fs x) k).2-k),hB.take _ _ _ (nw.1 hw) (by omega) (Bw _ _ _ (by omega)),by simp only;omega⟩,Nat.le_refl _,nl.2.1⟩
theorem Ed(fs:Fs)(hsz:∀j,j<fs.length->(aj fs j).size<=1024)(f:Nat):(∀x k bg d m,k<=(aj fs x).size->bg.length=4->Gd d m->(aQ fs f x k bg d).2.1.length=4/\cI fs (aQ fs f x k bg d).2.1<=cI fs bg/\∃m',Gd (aQ fs f x k bg d).2.2 m'/\m'+cI fs (aQ fs f x k bg d).2.1<=m+((aj fs x).size-k)+cI fs bg) /\
  (∀j bg d m,bg.length=4->Gd d m->Dz fs bg m (bJ fs f j bg d)):=by
 have second:∀f,(∀x k bg d m,k<=(aj fs x).size->bg.length=4->Gd d m->(aQ fs f x k bg d).2.1.length=4/\cI fs (aQ fs f x k bg d).2.1<=cI fs bg/\∃m',Gd (aQ fs f x k bg d).2.2 m'/\m'+cI fs (aQ fs f x k bg d).2.1<=m+((aj fs x).size-k)+cI fs bg) ->
   (∀j bg d m,bg.length=4->Gd d m->Dz fs bg m (bJ fs f j bg d)):=by
  intro f h j bg d m hl hB;unfold bJ
  split
  ·exact⟨hl,Nat.le_refl _,m,hB,Nat.le_refl _⟩
  ·next hb =>
   have hb':bg.getD j true=false:=by simpa using hb
   have hm:=pB fs bg j hl hb';have:=h j 0 (bg.set j true) d m (Nat.zero_le _) (by simpa using hl) hB;refine⟨this.1,by omega,?_⟩;obtain⟨m',q1,q2⟩:=this.2.2;exact⟨m',q1,by omega⟩
 induction f with
 | zero =>
  have h0:∀x k bg d m,k<=(aj fs x).size->bg.length=4->Gd d m->(aQ fs 0 x k bg d).2.1.length=4/\cI fs (aQ fs 0 x k bg d).2.1<=cI fs bg/\∃m',Gd (aQ fs 0 x k bg d).2.2 m'/\m'+cI fs (aQ fs 0 x k bg d).2.1<=m+((aj fs x).size-k)+cI fs bg:=by
   intro x k bg d m hk hl hB;exact⟨hl,Nat.le_refl _,m,hB,by simp only[aQ];omega⟩
  exact⟨h0,second 0 h0⟩
 | succ f ih =>
  have h1:∀x k bg d m,k<=(aj fs x).size->bg.length=4->Gd d m->(aQ fs (f+1) x k bg d).2.1.length=4/\cI fs (aQ fs (f+1) x k bg d).2.1<=cI fs bg/\∃m',Gd (aQ fs (f+1) x k bg d).2.2 m'/\m'+cI fs (aQ fs (f+1) x k bg d).2.1<=m+((aj fs x).size-k)+cI fs bg:=by
   intro x k bg d m hk hl hB
   cases hw:aA (ak (aj fs x) k).1 with
   | true =>
    have nl:=cT (aj fs x) k hk;have st:=At fs hsz f ih.2 x k bg d m hk hl hB hw;obtain⟨⟨s1,s2,m1,s3,s4⟩,s5,s6⟩:=st
    cases h2:((eo fs f x k bg d).1.1.1==0) with
    | true =>
     rw[xZ fs f x k bg d hw h2];obtain⟨r1,r2,m2,r3,r4⟩:=ih.1 x (eo fs f x k bg d).2 (eo fs f x k bg d).1.2.1 (eo fs f x k bg d).1.2.2 m1 s6 s1 s3;exact⟨r1,by omega,m2,r3,by omega⟩
    | false =>
     rw[oo fs f x k bg d hw h2];exact⟨s1,s2,m1,s3,by omega⟩
   | false =>
    by_cases h2:(ak (aj fs x) k).1.fin=true/\eF d=false
    ·rw[su fs f x k bg d hw h2.1 h2.2];exact⟨hl,Nat.le_refl _,m,hB,by simp only;omega⟩
    ·rw[oX fs f x k bg d hw h2];exact⟨hl,Nat.le_refl _,m,hB,by simp only;omega⟩
  exact⟨h1,second (f+1) h1⟩
def EY(l:List St):Prop:=∀s∈l,dI s.fin/\∀x∈s.proof,dI x.2
structure Bc(l:List St):Prop where
 ok:db l
 prf:∀i (hi:i<l.length),iQ l[i]
 lns:EY l
theorem uP(fs:Fs)(hsz:∀j,j<fs.length->(aj fs j).size<=1024)(k:Nat):Bc (cy fs k).2.2.sts:=by
 obtain⟨_,_,m,hG,hm⟩:=(Ed fs hsz 5000).2 k yO bh 0 rfl Gd.empty;have h4:=sI fs hsz yO;have hm':m<=4104:=by omega
 have hl:=hG.bnd.sts;unfold cy;refine⟨⟨by omega,fun i hi=>?_,fun i hi=>?_,fun i hi=>?_⟩,fun i hi=>⟨?_,?_⟩,?_⟩
 ·exact(hG.sts _ (List.getElem_mem hi)).1
 ·have:=(hG.sts _ (List.getElem_mem hi)).2.1;omega
 ·have:=(hG.sts _ (List.getElem_mem hi)).2.2.1;omega
 ·have:=(hG.sts _ (List.getElem_mem hi)).2.2.2.1;omega
 ·exact fun x hx=>((hG.sts _ (List.getElem_mem hi)).2.2.2.2.1 x hx).1
 ·exact fun s hs=>⟨(hG.sts s hs).2.2.2.2.2.2,fun x hx=>((hG.sts s hs).2.2.2.2.1 x hx).2⟩
theorem ja(fs:Fs)(k:Nat)(hk:k<4)(hs:(aj fs k).size<=1024)(hni:Bd (aj fs k)) :
  cy fs k=(oV (bn fs k) (aj fs k) (bU (bn fs k) (aj fs k) 0 bh).1,yO.set k true,(bU (bn fs k) (aj fs k) 0 bh).2):=by
 unfold cy bJ
 have hb:yO.getD k true=false:=by
  match k,hk with
  | 0,_=>rfl
  | 1,_=>rfl
  | 2,_=>rfl
  | 3,_=>rfl
 rw[if_neg (by rw[hb];simp)];exact BQ fs k hni 5000 0 _ _ (Nat.zero_le _) (by omega)
theorem iW(T:ByteArray)(hs:T.size<=1024)(hi:fB T=false):Bc (bC T).2.sts:=by
 have h:=uP [(⟨#[109]⟩,T)] (fun j hj=>by
  have:j=0:=by simpa using hj
  subst this;exact hs) 0
 rw[ja [(⟨#[109]⟩,T)] 0 (by omega) hs (pH T hi)]at h;exact h
def tZ(f:lW):Array Value:=#[.int .i64 f.1,.string f.2.file,.int .i64 f.2.line,.int .i64 f.2.col]
theorem fd{w:World}{r:Nat}{f:lW}(h:w.heap[r]?=some (.cells (tZ f) 167 (0,0))) :
  w.cell? ⟨r,0,none⟩=some (.int .i64 f.1)/\w.cell? ⟨r,1,none⟩=some (.string f.2.file)/\w.cell? ⟨r,2,none⟩=some (.int .i64 f.2.line)/\w.cell? ⟨r,3,none⟩=some (.int .i64 f.2.col):=by
 refine⟨?_,?_,?_,?_⟩ <;> (rw[ab h];rfl)
theorem tJ(l:List St)(a:Nat)(s:St)(hl:l.length<=10000)(hp:s.proof.length<=10000):dU ⟨(bB l a s.fin 1 (s.proof.drop 1) (aq l a)).2,[],[],0,false⟩ 20000:=by
 have h1:=(qW l a s.fin (s.proof.drop 1) 1 (aq l a)).2;have h2:(aq l a).length<=l.length:=jz l a l.length;simp only[List.length_drop]at h1;exact⟨by simp only;omega,by simp,by simp,by simp,by simp⟩
set_option maxRecDepth 100000 in
theorem lR(rb ro a:Nat)(l:List St)(H:Nat->Hd)(w:World)(hr:bZ w rb ro l H)(ha:a<l.length)(ok:db l)(okp:iQ l[a]) :
  Calls Tryz.prog 115 #[.pointer (some ⟨rb,ro,none⟩),.int .i64 a] w fun e w'=>∃hd:Hd,
   e=.returned (.tuple #[.slice hd.ao (fH l a l[a]).1.length hd.cap,eM (fH l a l[a]).2])/\au w' hd (dB (fH l a l[a]).1)/\(∀x,hd.blk=some x->w.heap.size<=x)/\aa [] w w':=by
 have hbw:=hr.lt;have hlen:=ok.len;have hpl:=ok.prfs a ha;have hhl:(aq l a).length<=l.length:=jz l a l.length;obtain⟨AO,HAO⟩:∃AO,Hid ((H (11+2*a)).ao=AO):=⟨_,rfl⟩
 obtain⟨W,hW⟩:∃W,W=w.alloc (.cells #[.int .i64 0,.string ⟨#[]⟩,.int .i64 0,.int .i64 0] 167):=⟨_,rfl⟩
 have K:aa [] w W:=by rw[hW];exact(aa.refl [] _).alloc _
 have BF:W.heap[w.heap.size]?=some (.cells aO 167 (0,0)):=by rw[hW];exact heap_alloc_new _ _
 have HW:=(show Hid _ from hW.symm);clear hW;go_enter Tryz.func115,Tryz.ntmps115
 go_upto_region 1 with fail
 rw[HW.out];go_wp2_with fail;refine(aI rb ro a l H _ (hr.still K) ha).mono ?_;rintro e w1 ⟨rfl,hk1⟩;unfold cQ;rw[HAO.out];obtain⟨TB,hTB⟩:∃TB:Array Value,TB=#[.int .i64 l[a].kind,.string l[a].label,.slice (H (10+2*a)).ao l[a].symbols.length (H (10+2*a)).cap,.slice AO l[a].proof.length (H (11+2*a)).cap,.string l[a].fin.file,.int .i64 l[a].fin.line,.int .i64 l[a].fin.col,.int .i64 l[a].til]:=⟨_,rfl⟩
 obtain⟨W2,hW2⟩:∃W2,W2=w1.alloc (.cells #[.int .i64 l[a].kind,.string l[a].label,.slice (H (10+2*a)).ao l[a].symbols.length (H (10+2*a)).cap,.slice AO l[a].proof.length (H (11+2*a)).cap,.string l[a].fin.file,.int .i64 l[a].fin.line,.int .i64 l[a].fin.col,.int .i64 l[a].til] 144):=⟨_,rfl⟩
 have HW2:=(show Hid _ from hW2.symm);have K2:aa [] w W2:=by rw[hW2];exact(K.trans hk1).alloc _
 have BT:W2.heap[w1.heap.size]?=some (.cells TB 144 (0,0)):=by rw[hW2,hTB];exact heap_alloc_new _ _
 have BF2:W2.heap[w.heap.size]?=some (.cells aO 167 (0,0)):=by rw[hW2];exact((aa.refl [] _).alloc _).get (hk1.get BF (by simp)) (by simp)
 have hs1:w.heap.size<w1.heap.size:=by have:=ac (hk1.get BF (by simp));omega
 have hsT:=ac BT;have HTB:=(show Hid _ from hTB);clear hW2 hTB
 go_upto_region 2 with fail
 rw[HW2.out];clear HW HW2 hk1 BF K;have hs2:=K2.size;have hr2:=hr.still K2;go_wp2_with fail;refine(iw rb ro a l H _ hr2 ha ok).mono ?_;rintro e w3 ⟨hh,rfl,hOh,hNh,hk3⟩
 have CM:cB (w3.alloc (.cells #[.slice hh.ao (aq l a).length hh.cap,.slice none 0 0,.slice none 0 0,.int .i64 0,.bool false] 219)) w3.heap.size ⟨aq l a,[],[],0,false⟩ (qF hh):=DH (cs:=gP ⟨aq l a,[],[],0,false⟩ (qF hh)) (rows:=pX ⟨aq l a,[],[],0,false⟩) hOh (by
  intro i
  match i with
  | 0=>exact World.ownsRow_nil _ _ _ _
  | 1=>exact World.ownsRow_nil _ _ _ _
  | m+2=>exact World.ownsRow_nil _ _ _ _)
 have K4:aa [] w (w3.alloc (.cells #[.slice hh.ao (aq l a).length hh.cap,.slice none 0 0,.slice none 0 0,.int .i64 0,.bool false] 219)):=(K2.trans hk3).alloc _;have BT4:(w3.alloc (.cells #[.slice hh.ao (aq l a).length hh.cap,.slice none 0 0,.slice none 0 0,.int .i64 0,.bool false] 219)).heap[w1.heap.size]?=some (.cells TB 144 (0,0)):=((aa.refl [] _).alloc _).get (hk3.get BT (by simp)) (by simp);have BF4:(w3.alloc (.cells #[.slice hh.ao (aq l a).length hh.cap,.slice none 0 0,.slice none 0 0,.int .i64 0,.bool false] 219)).heap[w.heap.size]?=some (.cells aO 167 (0,0)):=((aa.refl [] _).alloc _).get (hk3.get BF2 (by simp)) (by simp);have hsb:W2.heap.size<=w3.heap.size:=hk3.size;have hNw:∀x,cK (qF hh) x->W2.heap.size<=x:=fun x hx=>hNh x (En hx)
 obtain⟨W4,hW4⟩:∃W4,W4=w3.alloc (.cells #[.slice hh.ao (aq l a).length hh.cap,.slice none 0 0,.slice none 0 0,.int .i64 0,.bool false] 219):=⟨_,rfl⟩
 rw[<-hW4]at CM K4 BT4 BF4;have HW4:=(show Hid _ from hW4.symm);clear hW4 hOh hNh hk3 BT BF2
 go_upto_region 3 with fail
 rw[HW4.out];clear HW4;have okc:=tJ l a l[a] hlen hpl;have ble:=(qW l a l[a].fin (l[a].proof.drop 1) 1 (aq l a)).1;have TBK:=qM w3.heap.size ⟨aq l a,[],[],0,false⟩ (qF hh) rb ro a l H w W4 CM hr K4 ha ok (by simp only;omega) (by omega) (fun x hx=>Nat.le_trans hs2 (hNw x hx));have HCR:Hid (mh l a l[a]=vu (bB l a l[a].fin 1 (l[a].proof.drop 1) (aq l a)).1.2 (l[a].proof.drop (bB l a l[a].fin 1 (l[a].proof.drop 1) (aq l a)).1.1) ⟨(bB l a l[a].fin 1 (l[a].proof.drop 1) (aq l a)).2,[],[],0,false⟩):=rfl;simp only at TBK;have hbs:=af.lt CM;simp only[List.length_drop]at ble;generalize bB l a l[a].fin 1 (l[a].proof.drop 1) (aq l a)=BL at *;obtain⟨⟨nx,bf,bp⟩,ns⟩:=BL;simp only at TBK HCR okc ble;go_wp2_with fail;refine TBK.mono ?_;rintro e w5 ⟨rfl,H5,D5,T5⟩;unfold eM
 have K5:=K4.ofP T5.1 (fun x hx=>by
  rcases hx with e | e
  ·omega
  ·exact Nat.le_trans hs2 (hNw x e))
 have n1:¬cK H5 w.heap.size:=T5.fresh _ (by omega) (fun hm=>by have:=hNw _ hm;omega);have n2:¬cK H5 w1.heap.size:=T5.fresh _ (by omega) (fun hm=>by have:=hNw _ hm;omega)
 have nb:∀x,cK H5 x->w.heap.size<=x:=fun x hx=>by
  rcases T5.2 x hx with e | e
  ·exact Nat.le_trans hs2 (hNw x e)
  ·omega
 have BT5:=T5.1.get BT4 (by rintro (e | e);omega;have:=hNw _ e;omega);have BF5:=T5.1.get BF4 (by rintro (e | e);omega;have:=hNw _ e;omega);have n3:¬cK H5 w5.heap.size:=fun hm=>by have:=af.inlt D5 hm;omega
 have hs5:=T5.1.size;obtain⟨W6,hW6⟩:∃W6,W6=w5.alloc (.cells #[.int .i64 bf,.string bp.file,.int .i64 bp.line,.int .i64 bp.col] 167):=⟨_,rfl⟩
 have k6:aa [] w5 W6:=by rw[hW6];exact(aa.refl [] _).alloc _
 have B96:W6.heap[w5.heap.size]?=some (.cells (tZ (bf,bp)) 167 (0,0)):=by rw[hW6];exact heap_alloc_new _ _
 have C6:=cB.still D5 k6;have BT6:=k6.get BT5 (by simp);have BF6:=k6.get BF5 (by simp);have K6:=K5.trans k6;have HW6:=(show Hid _ from hW6.symm);clear hW6
 go_upto_region 4 with fail
 rw[HW6.out];clear HW6 BT4 BF4 BT5 BF5 D5 T5 TBK CM K4 K5 hr2 k6;go_wp2
 go_loopg [10] (l[a].proof.length-nx) (fun gk iv wr=>∃(i:Nat) (c':gG) (H1:Nat->Hd) (fl:lW) (N:Nat),i<=10001/\gk=l[a].proof.length-i/\iv=.int .i64 i/\dU c' N/\N+fX (l[a].proof.drop i)<=1020000/\Hid (mh l a l[a]=vu fl (l[a].proof.drop i) c')/\cB wr w3.heap.size c' H1/\(∀x,cK H1 x->w.heap.size<=x)/\aa [] w wr /\
  wr.heap[w.heap.size]?=some (.cells aO 167 (0,0))/\wr.heap[w1.heap.size]?=some (.cells TB 144 (0,0))/\wr.heap[w5.heap.size]?=some (.cells (tZ fl) 167 (0,0))/\¬cK H1 w.heap.size/\¬cK H1 w1.heap.size/\¬cK H1 w5.heap.size)
 case atStart=>exact⟨nx,_,H5,(bf,bp),20000,by omega,by omega,rfl,okc,by have:=uY l[a].proof nx;have:=okp.size;omega,HCR,C6,nb,K6,BF6,BT6,B96,n1,n2,n3⟩
 case round =>
  obtain⟨i,c',H1,fl,N,hi,hg,rfl,okc',hN,hR,hC,hb',KW,B1,B2,B9,n1,n2,n3⟩:=hrel;clear C6 nb K6 BF6 BT6 B96;have hr':=hr.still KW;have hs1w:=ac B1;have hs2w:=ac B2;have hs9w:=ac B9;have hOp:=hr'.sts.prfs a l[a] (List.getElem?_eq_getElem ha);obtain⟨f0,f1,f2,f3⟩:=fd B9;have yf:=an B9;obtain⟨z0,z1,z2,z3⟩:=bI B1;have yz:=an B1;have hge:((i:Int) ≥ 0):=by omega
  obtain⟨kc0,kc1,kc2,kc3,kc4⟩:=hC.cells;have hcb:=af.lt hC
  by_cases hlt:i<l[a].proof.length
  ·cases hfl:(fl.1==0)
   ·have t3:wr.cell? ⟨w1.heap.size,3,none⟩=some (.slice AO l[a].proof.length (H (11+2*a)).cap):=by rw[ab B2,HTB.out];rfl
    have HF:Hid (fH l a l[a]=([],fl)):=by show _=_;unfold fH;rw[hR.out,ym _ _ _ hfl];simp[j9,hfl]
    have hfl2:(fl.1 != 0)=true:=by simp[bne,hfl]
    clear hR hOp
    go_upto_region 13 with fail
    go_region
    all_goals go_wp2
    all_goals exact bodyPost_ret (v:=.tuple #[.slice none 0 0,.agg #[.int .i64 fl.1,.string fl.2.file,.int .i64 fl.2.line,.int .i64 fl.2.col]]) (by simp[results,Tryz.results115,go_sem,z0,z1,z2,z3]) rfl ⟨⟨none,0⟩,by rw[HF.out];rfl,by rw[HF.out];exact World.ownsRow_nil _ _ _ _,by intro x hx;simp[Hd.blk]at hx,(gj KW (Nat.le_refl _) _ _ _ _).drew⟩
   ·obtain⟨gp,ep,ecap,ecap2,d0,d1,d2,d3⟩:=hOp.word i hlt
    obtain rfl:AO=some ⟨gp,0,none⟩:=HAO.out.symm.trans ep;have t3:wr.cell? ⟨w1.heap.size,3,none⟩=some (.slice (some ⟨gp,0,none⟩) l[a].proof.length (H (11+2*a)).cap):=by rw[ab B2,HTB.out];rfl
    have hgp:gp<wr.heap.size:=hOp.lt (by unfold Hd.blk;rw[ep];rfl);clear ep hOp;have hcol:=okp.col l[a].proof[i] (List.getElem_mem hlt);have hsz:=xe l[a].proof i hlt;have HRN:=(show Hid _ from hR.out.trans (Fr fl l[a].proof c' i hlt hfl));have OKN:=rU l[a].proof[i].1 l[a].proof[i].2 okc';have TW:=ti w3.heap.size c' H1 l[a].proof[i].1 l[a].proof[i].2.file l[a].proof[i].2.line l[a].proof[i].2.col wr hC N okc' (by omega) hcol;clear hR;generalize l[a].proof[i]=wd at *;obtain⟨t,pf,pl,pc⟩:=wd;simp only at d0 d1 d2 d3 HRN OKN TW hcol hsz;generalize gN t ⟨pf,pl,pc⟩ c'=Q at *;obtain⟨⟨qf,qp⟩,c2⟩:=Q;simp only at HRN OKN TW;unfold eM at TW;clear z0 z1 z2 z3 yz kc0 kc1 kc2 kc3 kc4;go_wp2_with fail;refine TW.mono ?_;rintro e w7 ⟨rfl,H7,D7,T7⟩
    have hT1:∀x,(x=w3.heap.size∨cK H1 x)->w.heap.size<=x:=by
     rintro x (e | e)
     ·omega
     ·exact hb' x e
    have K7:=KW.ofP T7.1 hT1;have q1:=T7.1.get B1 (by rintro (e | e);omega;exact n1 e);have q2:=T7.1.get B2 (by rintro (e | e);omega;exact n2 e);have q9:=T7.1.get B9 (by rintro (e | e);omega;exact n3 e);have m1:=T7.fresh w.heap.size hs1w n1;have m2:=T7.fresh w1.heap.size hs2w n2;have m3:=T7.fresh w5.heap.size hs9w n3;have y9:=an q9
    have m4:∀x,cK H7 x->w.heap.size<=x:=fun x hx=>by
     rcases T7.2 x hx with e | e
     ·exact hb' x e
     ·omega
    have kk:=fun a0 a1 a2 a3=>fe (w:=w7) (r:=w5.heap.size) a0 a1 a2 a3
    have HKK:=(show Hid _ from kk)
    have HB9:Hid (∀a0 a1 a2 a3,((((w7.setCell ⟨w5.heap.size,0,none⟩ a0).setCell ⟨w5.heap.size,1,none⟩ a1).setCell ⟨w5.heap.size,2,none⟩ a2).setCell ⟨w5.heap.size,3,none⟩ a3).heap[w5.heap.size]?=some (.cells #[a0,a1,a2,a3] 167 (0,0))):=by
     intro a0 a1 a2 a3;rw[ae (ae (ae (ae q9 _ _) _ _) _ _)];rfl
    clear kk hT1 d0 d1 d2 d3 t3 f0 f1 f2 f3 yf;obtain⟨g0,g1,g2,g3⟩:=fd q9;go_wp2
    go_roundg (l[a].proof.length-(i+1))
    case measure=>omega
    case rel=>exact⟨i+1,c2,H7,(qf,qp),N+t.size,by omega,rfl,by go_num,OKN,by omega,HRN.out,af.kept D7 (HKK.out _ _ _ _) (by simp;omega) (by intro x hx;simp;rintro rfl;exact m3 hx),m4,gj K7 (by omega) _ _ _ _,(HKK.out _ _ _ _).get q1 (by simp;omega),(HKK.out _ _ _ _).get q2 (by simp;omega),HB9.out _ _ _ _,m1,m2,m3⟩
  ·have t3:wr.cell? ⟨w1.heap.size,3,none⟩=some (.slice AO l[a].proof.length (H (11+2*a)).cap):=by rw[ab B2,HTB.out];rfl
   cases hfl:(fl.1==0)
   ·have HF:Hid (fH l a l[a]=([],fl)):=by show _=_;unfold fH;rw[hR.out,ym _ _ _ hfl];simp[j9,hfl]
    have hfl2:(fl.1 != 0)=true:=by simp[bne,hfl]
    clear hR hOp
    go_upto_region 13 with fail
    go_region
    all_goals go_wp2
    all_goals exact bodyPost_ret (v:=.tuple #[.slice none 0 0,.agg #[.int .i64 fl.1,.string fl.2.file,.int .i64 fl.2.line,.int .i64 fl.2.col]]) (by simp[results,Tryz.results115,go_sem,z0,z1,z2,z3]) rfl ⟨⟨none,0⟩,by rw[HF.out];rfl,by rw[HF.out];exact World.ownsRow_nil _ _ _ _,by intro x hx;simp[Hd.blk]at hx,(gj KW (Nat.le_refl _) _ _ _ _).drew⟩
   ·have t4:wr.cell? ⟨w1.heap.size,4,none⟩=some (.string l[a].fin.file):=by rw[ab B2,HTB.out];rfl
    have t5:wr.cell? ⟨w1.heap.size,5,none⟩=some (.int .i64 l[a].fin.line):=by rw[ab B2,HTB.out];rfl
    have t6:wr.cell? ⟨w1.heap.size,6,none⟩=some (.int .i64 l[a].fin.col):=by rw[ab B2,HTB.out];rfl
    have HE:Hid (fH l a l[a]=j9 l[a].fin (bT,c')):=by show _=_;unfold fH;rw[hR.out,Eo _ _ _ _ hlt hfl]
    have hfl2:(fl.1 != 0)=false:=by simp[bne,hfl]
    clear hR hOp
    by_cases hd0:c'.digits=0
    ·have hd1:¬((c'.digits:Int) > 0):=by omega
     by_cases hs0:c'.steps.length=0
     ·have hz1:((c'.steps.length:Int)==0)=true:=by simp[hs0]
      have HF:Hid (fH l a l[a]=([],(1,l[a].fin))):=by show _=_;rw[HE.out];simp[j9,bT,hd0,hs0]
      obtain⟨W8,hW8⟩:∃W8,W8=(((wr.setCell ⟨w5.heap.size,0,none⟩ (.int .i64 1)).setCell ⟨w5.heap.size,1,none⟩ (.string l[a].fin.file)).setCell ⟨w5.heap.size,2,none⟩ (.int .i64 l[a].fin.line)).setCell ⟨w5.heap.size,3,none⟩ (.int .i64 l[a].fin.col):=⟨_,rfl⟩
      have k8:aa [w5.heap.size] wr W8:=by rw[hW8];exact fe _ _ _ _
      have K8:aa [] w W8:=by rw[hW8];exact gj KW (by omega) _ _ _ _
      have B98:W8.heap[w5.heap.size]?=some (.cells (tZ (1,l[a].fin)) 167 (0,0)):=by
       rw[hW8,ae (ae (ae (ae B9 _ _) _ _) _ _)];rfl
      have B18:=k8.get B1 (by simp;omega);have C8:=af.kept hC k8 (by simp;omega) (by intro x hx;simp;rintro rfl;exact n3 hx);have HW8:=(show Hid _ from hW8.symm);clear hW8 k8
      go_upto_region 12 with fail
      rw[HW8.out];clear HW8 f0 f1 f2 f3 yf z0 z1 z2 z3 yz kc0 kc1 kc2 kc3 kc4 t3 t4 t5 t6 hfl hfl2;obtain⟨f0,f1,f2,f3⟩:=fd B98;have yf:=an B98;obtain⟨z0,z1,z2,z3⟩:=bI B18;have yz:=an B18
      go_upto_region 13 with fail
      go_region
      all_goals go_wp2
      all_goals exact bodyPost_ret (v:=.tuple #[.slice none 0 0,.agg #[.int .i64 1,.string l[a].fin.file,.int .i64 l[a].fin.line,.int .i64 l[a].fin.col]]) (by simp[results,Tryz.results115,go_sem,z0,z1,z2,z3]) rfl ⟨⟨none,0⟩,by rw[HF.out];rfl,by rw[HF.out];exact World.ownsRow_nil _ _ _ _,by intro x hx;simp[Hd.blk]at hx,(gj K8 (Nat.le_refl _) _ _ _ _).drew⟩
     ·have hz1:((c'.steps.length:Int)==0)=false:=beq_eq_false_iff_ne.2 (by omega)
      have HF:Hid (fH l a l[a]=(c'.steps,bT)):=by show _=_;rw[HE.out];simp[j9,bT,hd0,hs0]
      have HO2:Hid (au wr (H1 2) (dB c'.steps)):=af.own hC 2;have HN2:Hid (∀x,(H1 2).blk=some x->w.heap.size<=x/\x≠w.heap.size):=fun x hx=>⟨hb' x ⟨2,hx⟩,fun e=>n1 ⟨2,e ▸ hx⟩⟩
      clear hs0 hd0;go_wp2
      exact bodyPost_ret (v:=.tuple #[.slice (H1 2).ao c'.steps.length (H1 2).cap,.agg #[.int .i64 0,.string ⟨#[]⟩,.int .i64 0,.int .i64 0]]) (by simp[results,Tryz.results115,go_sem,z0,z1,z2,z3]) rfl
       ⟨H1 2,by rw[HF.out];rfl,by rw[HF.out];exact HO2.out.moved (fun x hx=>(fe (r:=w.heap.size) _ _ _ _).block x (HO2.out.lt hx) (by simp;exact(HN2.out x hx).2)),fun x hx=>(HN2.out x hx).1,gj KW (Nat.le_refl _) _ _ _ _⟩
    ·have hd1:(c'.digits:Int) > 0:=by omega
     have HF:Hid (fH l a l[a]=([],(4,l[a].fin))):=by show _=_;rw[HE.out];simp[j9,bT,hd0]
     obtain⟨W8,hW8⟩:∃W8,W8=(((wr.setCell ⟨w5.heap.size,0,none⟩ (.int .i64 4)).setCell ⟨w5.heap.size,1,none⟩ (.string l[a].fin.file)).setCell ⟨w5.heap.size,2,none⟩ (.int .i64 l[a].fin.line)).setCell ⟨w5.heap.size,3,none⟩ (.int .i64 l[a].fin.col):=⟨_,rfl⟩
     have k8:aa [w5.heap.size] wr W8:=by rw[hW8];exact fe _ _ _ _
     have K8:aa [] w W8:=by rw[hW8];exact gj KW (by omega) _ _ _ _
     have B98:W8.heap[w5.heap.size]?=some (.cells (tZ (4,l[a].fin)) 167 (0,0)):=by
      rw[hW8,ae (ae (ae (ae B9 _ _) _ _) _ _)];rfl
     have B18:=k8.get B1 (by simp;omega);have C8:=af.kept hC k8 (by simp;omega) (by intro x hx;simp;rintro rfl;exact n3 hx);have HW8:=(show Hid _ from hW8.symm);clear hW8 k8
     go_upto_region 10 with fail
     rw[HW8.out];clear HW8 f0 f1 f2 f3 yf z0 z1 z2 z3 yz kc0 kc1 kc2 kc3 kc4 t3 t4 t5 t6 hfl hfl2;obtain⟨f0,f1,f2,f3⟩:=fd B98;have yf:=an B98;obtain⟨z0,z1,z2,z3⟩:=bI B18;have yz:=an B18
     go_upto_region 13 with fail
     go_region
     all_goals go_wp2
     all_goals exact bodyPost_ret (v:=.tuple #[.slice none 0 0,.agg #[.int .i64 4,.string l[a].fin.file,.int .i64 l[a].fin.line,.int .i64 l[a].fin.col]]) (by simp[results,Tryz.results115,go_sem,z0,z1,z2,z3]) rfl ⟨⟨none,0⟩,by rw[HF.out];rfl,by rw[HF.out];exact World.ownsRow_nil _ _ _ _,by intro x hx;simp[Hd.blk]at hx,(gj K8 (Nat.le_refl _) _ _ _ _).drew⟩
def sA(s:St):Bool :=
 match s.proof with
 | []=>false
 | (t,_) :: _=>t.toList == [40]
def bR(l:List St)(a:Nat)(s:St):List fk×lW:=if sA s=true then fH l a s else bM l a s.fin s.proof []
set_option maxRecDepth 100000 in
theorem rC(rb ro a:Nat)(l:List St)(H:Nat->Hd)(w:World)(hr:bZ w rb ro l H)(ha:a<l.length)(ok:db l)(okp:iQ l[a]) :
  Calls Tryz.prog 97 #[.pointer (some ⟨rb,ro,none⟩),.int .i64 a] w fun e w'=>∃hd:Hd,
   e=.returned (.tuple #[.slice hd.ao (bR l a l[a]).1.length hd.cap,eM (bR l a l[a]).2])/\au w' hd (dB (bR l a l[a]).1)/\(∀x,hd.blk=some x->w.heap.size<=x)/\aa [] w w':=by
 have hbw:=hr.lt;have hpl:=ok.prfs a ha;obtain⟨AO,HAO⟩:∃AO,Hid ((H (11+2*a)).ao=AO):=⟨_,rfl⟩
 obtain⟨W,hW⟩:∃W,W=w.alloc (.cells #[.int .i64 0,.string ⟨#[]⟩,.int .i64 0,.int .i64 0] 167):=⟨_,rfl⟩
 have K:aa [] w W:=by rw[hW];exact(aa.refl [] _).alloc _
 have BF:W.heap[w.heap.size]?=some (.cells aO 167 (0,0)):=by rw[hW];exact heap_alloc_new _ _
 have HW:=(show Hid _ from hW.symm);clear hW;go_enter Tryz.func97,Tryz.ntmps97
 go_upto_region 1 with fail
 rw[HW.out];go_wp2_with fail;refine(aI rb ro a l H _ (hr.still K) ha).mono ?_;rintro e w1 ⟨rfl,hk1⟩;unfold cQ;rw[HAO.out];obtain⟨W2,hW2⟩:∃W2,W2=w1.alloc (.cells #[.int .i64 l[a].kind,.string l[a].label,.slice (H (10+2*a)).ao l[a].symbols.length (H (10+2*a)).cap,.slice AO l[a].proof.length (H (11+2*a)).cap,.string l[a].fin.file,.int .i64 l[a].fin.line,.int .i64 l[a].fin.col,.int .i64 l[a].til] 144):=⟨_,rfl⟩
 have HW2:=(show Hid _ from hW2.symm);have K2:aa [] w W2:=by rw[hW2];exact(K.trans hk1).alloc _
 have BT:W2.heap[w1.heap.size]?=some (.cells #[.int .i64 l[a].kind,.string l[a].label,.slice (H (10+2*a)).ao l[a].symbols.length (H (10+2*a)).cap,.slice AO l[a].proof.length (H (11+2*a)).cap,.string l[a].fin.file,.int .i64 l[a].fin.line,.int .i64 l[a].fin.col,.int .i64 l[a].til] 144 (0,0)):=by rw[hW2];exact heap_alloc_new _ _
 have BF2:W2.heap[w.heap.size]?=some (.cells aO 167 (0,0)):=by rw[hW2];exact((aa.refl [] _).alloc _).get (hk1.get BF (by simp)) (by simp)
 have hs1:w.heap.size<w1.heap.size:=by have:=ac (hk1.get BF (by simp));omega
 have hsT:=ac BT;clear hW2
 go_upto_region 2 with fail
 rw[HW2.out];clear HW HW2 hk1 BF K;have t3:W2.cell? ⟨w1.heap.size,3,none⟩=some (.slice AO l[a].proof.length (H (11+2*a)).cap):=by rw[ab BT];rfl
 have hr2:=hr.still K2;have hOp:=hr2.sts.prfs a l[a] (List.getElem?_eq_getElem ha)
 have HTAIL:Hid (∀(w9:World) (fl:lW) (hd:Hd) (st:List fk),aa [] W2 w9->(∀x,hd.blk=some x->W2.heap.size<=x)->au w9 hd (dB st)->bR l a l[a]=(st,fl) ->
   w9.frozen? ⟨w.heap.size,0,none⟩=false/\w9.frozen? ⟨w.heap.size,1,none⟩=false/\w9.frozen? ⟨w.heap.size,2,none⟩=false/\w9.frozen? ⟨w.heap.size,3,none⟩=false /\
   w9.cell? ⟨w.heap.size,0,none⟩=some (.int .i64 0)/\w9.cell? ⟨w.heap.size,1,none⟩=some (.string ⟨#[]⟩)/\w9.cell? ⟨w.heap.size,2,none⟩=some (.int .i64 0)/\w9.cell? ⟨w.heap.size,3,none⟩=some (.int .i64 0) /\
   ∀a0 a1 a2 a3,Hid (aa [] w ((((w9.setCell ⟨w.heap.size,0,none⟩ a0).setCell ⟨w.heap.size,1,none⟩ a1).setCell ⟨w.heap.size,2,none⟩ a2).setCell ⟨w.heap.size,3,none⟩ a3)/\au ((((w9.setCell ⟨w.heap.size,0,none⟩ a0).setCell ⟨w.heap.size,1,none⟩ a1).setCell ⟨w.heap.size,2,none⟩ a2).setCell ⟨w.heap.size,3,none⟩ a3) hd (dB st))):=by
  intro w9 fl hd st k9 hn9 ho9 he;have B9:=k9.get BF2 (by simp);obtain⟨z0,z1,z2,z3⟩:=bI B9;have yz:=an B9;refine⟨yz 0,yz 1,yz 2,yz 3,z0,z1,z2,z3,fun a0 a1 a2 a3=>⟨gj (K2.trans k9) (Nat.le_refl _) _ _ _ _,ho9.moved (fun x hx=>(fe (r:=w.heap.size) _ _ _ _).block x (ho9.lt hx) (by simp;rintro rfl;have:=hn9 _ hx;omega))⟩⟩
 have hsW:=K2.size
 rcases hpr:l[a].proof with _ | ⟨⟨t,p⟩,r⟩
 ·have hl0:l[a].proof.length=0:=by rw[hpr];rfl
  have HF:Hid (bR l a l[a]=bM l a l[a].fin l[a].proof []):=by show _=_;simp[bR,sA,hpr]
  rw[hl0]at t3;have hEz:¬((0:Nat):Int) > 0:=by omega
  clear hpr hOp;go_wp2_with (go_at_call 116;refine(kw rb ro a l H _ hr2 ha ok).mono ?_;rintro e w9 ⟨hd,rfl,o9,n9,k9⟩;obtain⟨y0,y1,y2,y3,z0,z1,z2,z3,HX⟩:=HTAIL.out w9 _ hd _ k9 n9 o9 HF.out;unfold eM)
  exact bodyPost_ret (v:=.tuple #[.slice hd.ao (bM l a l[a].fin l[a].proof []).1.length hd.cap,eM (bM l a l[a].fin l[a].proof []).2]) (by simp[results,Tryz.results97,go_sem,z0,z1,z2,z3,eM]) rfl
   ⟨hd,by rw[HF.out],by rw[HF.out];exact(HX _ _ _ _).out.2,fun x hx=>Nat.le_trans hsW (n9 x hx),(HX _ _ _ _).out.1⟩
 ·have hl0:l[a].proof.length=r.length+1:=by rw[hpr];rfl
  obtain⟨gp,ep,ecap,ecap2,d0,-,-,-⟩:=hOp.word 0 (by omega);obtain rfl:AO=some ⟨gp,0,none⟩:=HAO.out.symm.trans ep;have hgp:gp<W2.heap.size:=hOp.lt (by unfold Hd.blk;rw[ep];rfl);have hlp:((l[a].proof.length:Int) > 0):=by omega
  have hlp2:(0:Int)<l[a].proof.length:=by omega
  have hlp3:0<l[a].proof.length:=by omega
  simp only[hpr,List.getElem_cons_zero]at d0
  cases hc:(t.toList == [40])
  ·have HF:Hid (bR l a l[a]=bM l a l[a].fin l[a].proof []):=by show _=_;simp[bR,sA,hpr,hc]
   clear hpr hOp ep;go_wp2_with (go_at_call 116;refine(kw rb ro a l H _ hr2 ha ok).mono ?_;rintro e w9 ⟨hd,rfl,o9,n9,k9⟩;obtain⟨y0,y1,y2,y3,z0,z1,z2,z3,HX⟩:=HTAIL.out w9 _ hd _ k9 n9 o9 HF.out;unfold eM)
   exact bodyPost_ret (v:=.tuple #[.slice hd.ao (bM l a l[a].fin l[a].proof []).1.length hd.cap,eM (bM l a l[a].fin l[a].proof []).2]) (by simp[results,Tryz.results97,go_sem,z0,z1,z2,z3,eM]) rfl
    ⟨hd,by rw[HF.out],by rw[HF.out];exact(HX _ _ _ _).out.2,fun x hx=>Nat.le_trans hsW (n9 x hx),(HX _ _ _ _).out.1⟩
  ·have HF:Hid (bR l a l[a]=fH l a l[a]):=by show _=_;simp[bR,sA,hpr,hc]
   clear hpr hOp ep;go_wp2_with (go_at_call 115;refine(lR rb ro a l H _ hr2 ha ok okp).mono ?_;rintro e w9 ⟨hd,rfl,o9,n9,k9⟩;obtain⟨y0,y1,y2,y3,z0,z1,z2,z3,HX⟩:=HTAIL.out w9 _ hd _ k9 n9 o9 HF.out;unfold eM)
   exact bodyPost_ret (v:=.tuple #[.slice hd.ao (fH l a l[a]).1.length hd.cap,eM (fH l a l[a]).2]) (by simp[results,Tryz.results97,go_sem,z0,z1,z2,z3,eM]) rfl
    ⟨hd,by rw[HF.out],by rw[HF.out];exact(HX _ _ _ _).out.2,fun x hx=>Nat.le_trans hsW (n9 x hx),(HX _ _ _ _).out.1⟩
theorem sx:(Tryz.prog.info? 22).map (fun i=>(i.zero,i.size,i.bytes))=some (some (.slice none 0 0),1,24):=by kernel_rfl
structure Ex where
 hd:Hd
 xs:List ByteArray
def od(e:Ex):Value:=.slice e.hd.ao e.xs.length e.hd.cap
def sj(l:List Ex):List Value:=l.map od
def cE(l:List Ex):eI:=⟨22,1,l.length,sj l⟩
theorem kZ(l:List Ex)(e:Ex):(⟨(cE l).e,(cE l).size,(cE l).n+1,(cE l).xs++[od e]⟩:eI)=cE (l++[e]):=by simp[cE,sj]
theorem mm(l:List Ex)(k:Nat)(h:k<l.length):(sj l)[k]?=some (od l[k]):=by simp[sj,h]
theorem bH.keptP{w w':World}{h:Hd}{l:List ByteArray}{P:Nat->Prop}(v:bH w h l)(k:dw P w w')(hS:∀x,h.blk=some x->¬P x):bH w' h l:=by
 rcases v with v | ⟨g,off,cur,t,e1,e2,e3⟩
 ·exact Or.inl v
 ·exact Or.inr ⟨g,off,cur,t,e1,k.get e2 (hS g (by unfold Hd.blk;rw[e1];rfl)),e3⟩
structure mS(w:World)(b:Nat)(H:Nat->Hd)(e:Ex):Prop where
 view:bH w e.hd e.xs
 adr:∃ad,e.hd.ao=some ad
 far:∀x,e.hd.blk=some x->x<w.heap.size/\x≠b/\¬cK H x
theorem mS.turned{w w':World}{b:Nat}{H H':Nat->Hd}{e:Ex}(h:mS w b H e)(t:ag b w H w' H'):mS w' b H' e:=by
 refine⟨h.view.keptP t.1 (fun x hx=>?_),h.adr,fun x hx=>?_⟩
 ·obtain⟨_,h2,h3⟩:=h.far x hx
  rintro (e | e)
  ·exact h2 e
  ·exact h3 e
 ·obtain⟨h1,h2,h3⟩:=h.far x hx
  exact⟨Nat.lt_of_lt_of_le h1 t.1.size,h2,t.fresh x h1 h3⟩
theorem mS.still{w w':World}{b:Nat}{H:Nat->Hd}{e:Ex}(h:mS w b H e)(k:aa [] w w'):mS w' b H e :=
 ⟨h.view.still k,h.adr,fun x hx=>⟨Nat.lt_of_lt_of_le (h.far x hx).1 k.size,(h.far x hx).2⟩⟩
def kC(vs:List ByteArray)(be:List Ex):Nat->eI
 | 0=>am vs
 | 1=>cE be
 | _+2=>am []
def jK(vs:List ByteArray)(be:List Ex)(H:Nat->Hd):List Value:=[.slice (H 0).ao vs.length (H 0).cap,.slice (H 1).ao be.length (H 1).cap]
structure GR(w:World)(b:Nat)(vs:List ByteArray)(be:List Ex)(H:Nat->Hd):Prop where
 bag:af w b 247 (jK vs be H) (kC vs be) H
 len:be.length=vs.length
 exs:∀e∈be,mS w b H e
theorem GR.still{w w':World}{b:Nat}{vs:List ByteArray}{be:List Ex}{H:Nat->Hd}(h:GR w b vs be H)(k:aa [] w w'):GR w' b vs be H:=⟨h.bag.still k,h.len,fun e he=>(h.exs e he).still k⟩
theorem GR.cells{w:World}{b:Nat}{vs:List ByteArray}{be:List Ex}{H:Nat->Hd}(h:GR w b vs be H) :
  w.cell? ⟨b,0,none⟩=some (.slice (H 0).ao vs.length (H 0).cap)/\w.cell? ⟨b,1,none⟩=some (.slice (H 1).ao be.length (H 1).cap):=⟨h.bag.cell 0,h.bag.cell 1⟩
def qY(a b:List ByteArray):Bool:=a.map (·.toList)==b.map (·.toList)
theorem DQ{a b:List ByteArray}(h:a.length≠b.length):qY a b=false:=by
 unfold qY;rw[beq_eq_false_iff_ne];intro e;have:=congrArg List.length e;simp at this;exact h this
theorem Fg{a b:List ByteArray}(k:Nat)(h1:k<a.length)(h2:k<b.length)(h:(a[k].toList==b[k].toList)=false):qY a b=false:=by
 unfold qY;rw[beq_eq_false_iff_ne]at h ⊢;intro e;have:=congrArg (fun l=>l[k]?) e;simp[h1,h2]at this;exact h this
theorem xS{a b:List ByteArray}(hl:a.length=b.length)(h:∀k (h1:k<a.length) (h2:k<b.length),(a[k].toList==b[k].toList)=true):qY a b=true:=by
 unfold qY;rw[beq_iff_eq]
 apply List.ext_getElem
 ·simpa using hl
 ·intro k h1 h2
  simp at h1 h2 ⊢;exact beq_iff_eq.1 (h k h1 h2)
theorem qZ(h1 h2:Hd)(a b:List ByteArray)(w:World)(v1:bH w h1 a)(v2:bH w h2 b)(hl1:a.length<=1073741824)(hl2:b.length<=1073741824) :
  Calls Tryz.prog 130 #[.slice h1.ao a.length h1.cap,.slice h2.ao b.length h2.cap] w fun e w'=>e=.returned (.bool (qY a b))/\aa [] w w':=by
 obtain⟨ao1,cap1⟩:=h1;obtain⟨ao2,cap2⟩:=h2
 by_cases hl:a.length=b.length
 ·have hn:((a.length:Int) != b.length)=false:=by simp[hl]
  by_cases h0:a.length=0
  ·have HM:Hid (qY a b=true):=xS hl (fun k h1 h2=>by omega)
   have ha0:¬(0:Int)<a.length:=by omega
   go_enter Tryz.func130,Tryz.ntmps130;go_wp2;refine wp_loop_rounds 1 ?_;rw[rounds_succ];go_wp2;go_ret;exact⟨GQ HM.out.symm,aa.refl _ _⟩
  ·rcases v1 with rfl | ⟨g,off,cur,t,e1,e2,e3,e4,e5⟩
   ·simp at h0
   rcases v2 with rfl | ⟨g',off',cur',t',f1,f2,f3,f4,f5⟩
   ·simp at hl;simp[hl]at h0
   simp only at e1 f1 e4 e5 f4 f5;subst e1;subst f1;go_enter Tryz.func130,Tryz.ntmps130;go_wp2
   go_loopg [5] a.length (fun gk i wr=>∃k:Nat,k<=a.length/\gk=a.length-k/\i=.int .i64 k/\Hid (∀i (q1:i<a.length) (q2:i<b.length),i<k->(a[i].toList==b[i].toList)=true)/\aa [] w wr)
   case atStart=>exact⟨0,by omega,by omega,rfl,fun i _ _ hi=>by omega,aa.refl _ _⟩
   case round =>
    obtain⟨k,hk,hg,rfl,hall,hK⟩:=hrel
    by_cases hlt:k<a.length
    ·have hlt2:k<b.length:=by omega
     have c1:wr.cell? ⟨g,off+k,none⟩=some (.string a[k]):=(ab (hK.get e2 (by simp)) (off+k)).trans (e3 k a[k] (List.getElem?_eq_getElem hlt));have c2:wr.cell? ⟨g',off'+k,none⟩=some (.string b[k]):=(ab (hK.get f2 (by simp)) (off'+k)).trans (f3 k b[k] (List.getElem?_eq_getElem hlt2));have hli:(k:Int)<a.length:=by omega
     have hli2:(k:Int)<b.length:=by omega
     have HNO:=(show Hid _ from Fg k hlt hlt2)
     have HYE:Hid ((a[k].toList==b[k].toList)=true->∀i (q1:i<a.length) (q2:i<b.length),i<k+1->(a[i].toList==b[i].toList)=true):=by
      intro hh i q1 q2 hi
      by_cases e:i=k
      ·subst e;exact hh
      ·exact hall.out i q1 q2 (by omega)
     clear hall e3 f3 e2 f2
     cases hb:(a[k].toList==b[k].toList)
     ·have HM:=(show Hid _ from HNO.out hb)
      have hb':(a[k].toList != b[k].toList)=true:=by simp[bne,hb]
      clear HNO HYE hl
      go_upto_region 6 with fail
      go_quiet (fail)
      go_wp2;go_ret;exact⟨GQ HM.out.symm,hK.drewN _⟩
     ·have HM:=(show Hid _ from HYE.out hb)
      have hb':(a[k].toList != b[k].toList)=false:=by simp[bne,hb]
      clear HNO HYE hl
      go_upto_region 6 with fail
      go_quiet (fail)
      go_wp2
      go_roundg (a.length-(k+1))
      case measure=>omega
      case rel=>exact⟨k+1,by omega,rfl,by go_num,HM.out,hK.drewN _⟩
    ·have HM:Hid (qY a b=true):=xS hl (fun i q1 q2=>hall.out i q1 q2 (by omega))
     clear hall e3 f3;go_wp2;go_ret;exact⟨GQ HM.out.symm,hK⟩
 ·have HM:Hid (qY a b=false):=DQ hl
  have hn:((a.length:Int) != b.length)=true:=by simp[bne];omega
  go_enter Tryz.func130,Tryz.ntmps130;go_wp2;go_ret;exact⟨GQ HM.out.symm,aa.refl _ _⟩
theorem Ah(b:Nat)(vs:List ByteArray)(be:List Ex)(H:Nat->Hd)(x:ByteArray)(w:World)(h:GR w b vs be H)(hl:vs.length<=1073741824) :
  Calls Tryz.prog 192 #[.pointer (some ⟨b,0,none⟩),.string x] w fun e w'=>e=.returned (.int .i64 (bQ (aL vs x)))/\w'=w:=by
 obtain⟨c0,c1⟩:=h.cells;have hle:=h.len;have hOV:au w (H 0) (am vs):=h.bag.own 0;rw[hle]at c1;go_enter Tryz.func192,Tryz.ntmps192;go_wp2
 go_loopg [5] vs.length (fun g i wr=>∃k:Nat,k<=vs.length/\g=vs.length-k/\i=.int .i64 k/\Hid (∀i,i<k->((vs.getD i ⟨#[]⟩).toList==x.toList)=false)/\wr=w)
 case atStart=>exact⟨0,by omega,by omega,rfl,fun i hi=>by omega,rfl⟩
 case round =>
  obtain⟨k,hk,hg,rfl,hall,rfl⟩:=hrel
  by_cases hlt:k<vs.length
  ·rcases hOV.ways with ⟨_,h0,_⟩ | ⟨g,cur,e1,-,e3,-⟩
   ·have:vs.length=0:=h0
    omega
   ·have c2:=hOV.cell e1 k (.string vs[k]) (mP vs k hlt)
    rw[e1]at c0;have HG:=(show Hid _ from jy vs k hlt);have hcp:vs.length<=(H 0).cap:=e3;generalize vs[k]=y at *
    cases hb:(y.toList==x.toList)
    ·have HN:Hid (∀i,i<k+1->((vs.getD i ⟨#[]⟩).toList==x.toList)=false):=by
      intro i hi
      by_cases e:i=k
      ·subst e;rw[HG.out];exact hb
      ·exact hall.out i (by omega)
     clear HG h hOV;go_wp2
     go_roundg (vs.length-(k+1))
     case measure=>omega
     case rel=>exact⟨k+1,by omega,rfl,by go_num,HN,rfl⟩
    ·have HF:Hid (aL vs x=some k):=gK hlt (by rw[HG.out];exact hb) hall.out
     clear HG h hOV;go_wp2;go_ret;exact⟨ar (by rw[HF.out];rfl),rfl⟩
  ·have HF:Hid (aL vs x=none):=fQ (fun i hi=>hall.out i (by omega))
   clear h hOV;go_wp2;go_ret;exact⟨ar (by rw[HF.out];rfl),rfl⟩
theorem mR{P:Program}(w:World){ops:Array Oper}{rest:List Oper}{o:Oper}{a:Act}{Q:Exit->Act->World->Prop}
  (hg:o.guard=none) (s x:Operand) (t:TypeId) (hop:o.op=Op.call { callee:=Callee.builtin Builtin.append,args:=#[s,x],argTypes:=#[t,t] })
  (i:TypeInfo) (z:Value) (bytes:Nat) (h:Hd) (r:eI) (h1:P.underlying t=some (.slice r.e)) (h2:P.info? r.e=some i) (h3:i.zero=some z) (h4:i.size=r.size) (h5:i.bytes=bytes) (h6:z.cells.size=r.size) (h7:0<r.size)
  (hs:a.eval s=.slice h.ao r.n h.cap) (hown:au w h r)
  (ad:Addr) (m c:Nat) (news:List Value) (hx:a.eval x=.slice (some ad) m c) (hn:news.length=m*r.size) (hc:∀j u,news[j]?=some u->w.cell? (ad.add j)=some u) (h1c:∀u∈news,u.oneCell'=true)
  (b1:r.n+m<=maxLen) (b2:(r.n+m)*bytes<=140737488355328)
  (hK:∀hd' w',au w' hd' ⟨r.e,r.size,r.n+m,r.xs++news⟩->w.grownBy w' h.blk->(hd'.blk=h.blk∨hd'.blk=some w.heap.size)->wpList P ops Q rest (a.put o.dst (.slice hd'.ao (r.n+m) hd'.cap)) w') :
  wpList P ops Q (o :: rest) a w:=by
 refine wpList_append_own_at w hg s x t hop 0 r.e i z r.size bytes h1 h2 h3 h4 h5 h6 h7 (.slice h.ao r.n h.cap) r.n r.xs hs hown ad m c news hx hn hc h1c b1 b2 (Nat.zero_le _) ?_;intro v' w' q1 q2 q3 q4;rw[sM]at q2 q4
 rcases q1.2 with ⟨e1,e2⟩ | ⟨g,cap',cur,e1,e2⟩
 ·have:=hK ⟨none,0⟩ w' ⟨q1.1,Or.inl ⟨by rw[e2],e2⟩⟩ q2 (by rw[e1]at q4;exact q4)
  rw[e1];rw[e2]at this;exact this
 ·have:=hK ⟨some ⟨g,0,none⟩,cap'⟩ w' ⟨q1.1,Or.inr ⟨g,cap',cur,rfl,e2⟩⟩ q2 (by rw[e1]at q4;exact q4)
  rw[e1];exact this
def i6(vs:List ByteArray)(bs:List (List ByteArray))(x:ByteArray):List ByteArray:=match aL vs x with | none=>[x] | some i=>bs.getD i []
def eX(vs:List ByteArray)(bs:List (List ByteArray)):List ByteArray->List ByteArray->List ByteArray
 | [],acc=>acc
 | x :: r,acc=>if acc.length<=32 then eX vs bs r (acc++i6 vs bs x) else acc
def gA(vs:List ByteArray)(bs:List (List ByteArray))(sy:List ByteArray):List ByteArray:=eX vs bs sy []
theorem EB(vs:List ByteArray)(bs:List (List ByteArray))(sy acc:List ByteArray)(k:Nat)(hk:k<sy.length)(ha:acc.length<=32):eX vs bs (sy.drop k) acc=eX vs bs (sy.drop (k+1)) (acc++i6 vs bs sy[k]):=by
 rw[List.drop_eq_getElem_cons hk,eX,if_pos ha]
theorem zX(vs:List ByteArray)(bs:List (List ByteArray))(sy acc:List ByteArray)(ha:¬acc.length<=32):eX vs bs sy acc=acc:=by
 cases sy with
 | nil=>rfl
 | cons x r=>rw[eX,if_neg ha]
theorem CJ(vs:List ByteArray)(bs:List (List ByteArray))(sy acc:List ByteArray)(k:Nat)(hk:¬k<sy.length):eX vs bs (sy.drop k) acc=acc:=by
 rw[List.drop_of_length_le (by omega)];rfl
theorem Bp(vs:List ByteArray)(bs:List (List ByteArray))(x:ByteArray)(M:Nat)(hM:1<=M)(h:∀b∈bs,b.length<=M):(i6 vs bs x).length<=M:=by
 unfold i6
 split
 ·simpa using hM
 ·next i _ =>
  rw[List.getD_eq_getElem?_getD]
  cases e:bs[i]? with
  | none=>simp
  | some b=>simpa using h b (List.mem_of_getElem? e)
theorem wS(vs:List ByteArray)(bs:List (List ByteArray))(M:Nat)(hM:1<=M)(h:∀b∈bs,b.length<=M)(sy acc:List ByteArray)(ha:acc.length<=32+M):(eX vs bs sy acc).length<=32+M:=by
 induction sy generalizing acc with
 | nil=>exact ha
 | cons x r ih =>
  rw[eX]
  split
  ·have:=Bp vs bs x M hM h
   exact ih _ (by simp;omega)
  ·exact ha
theorem zW(vs:List ByteArray)(bs:List (List ByteArray))(M:Nat)(hM:1<=M)(h:∀b∈bs,b.length<=M)(sy:List ByteArray):(gA vs bs sy).length<=32+M:=wS vs bs M hM h sy [] (by simp)
theorem z7(l m:List ByteArray):(⟨(am l).e,(am l).size,(am l).n+m.length,(am l).xs++strs m⟩:eI)=am (l++m):=by simp[am,strs]
theorem bH.cells{w:World}{h:Hd}{l:List ByteArray}{ad:Addr}(v:bH w h l)(e:h.ao=some ad):∀j u,(strs l)[j]?=some u->w.cell? (ad.add j)=some u:=by
 intro j u hu
 rcases v with rfl | ⟨g,off,cur,t,e1,e2,e3,-⟩
 ·simp[strs]at hu
 ·rw[e]at e1
  cases e1
  have hj:(l[j]?).map Value.string=some u:=by simpa [strs] using hu
  cases hl:l[j]? with
  | none=>rw[hl]at hj;cases hj
  | some x =>
   rw[hl]at hj;cases hj
   have:(⟨g,off,none⟩:Addr).add j=⟨g,off+j,none⟩:=by
    simp only[Addr.add]
    split
    ·next hz=>subst hz;rfl
    ·rfl
   rw[this,ab e2];exact e3 j x hl
set_option maxRecDepth 100000 in
theorem nR(b:Nat)(vs:List ByteArray)(be:List Ex)(H:Nat->Hd)(hy:Hd)(sy:List ByteArray)(w:World)(h:GR w b vs be H)(hl:vs.length<=10000)(hbl:∀e∈be,e.xs.length<=10000)(hv:bH w hy sy)(hyl:sy.length<=10000) :
  Calls Tryz.prog 187 #[.pointer (some ⟨b,0,none⟩),.slice hy.ao sy.length hy.cap] w fun e w'=>∃hd:Hd,
   e=.returned (.slice hd.ao (gA vs (be.map Ex.xs) sy).length hd.cap)/\au w' hd (am (gA vs (be.map Ex.xs) sy))/\(∀x,hd.blk=some x->w.heap.size<=x)/\aa [] w w':=by
 obtain⟨i0,hi,hz0,hz1,hz2⟩:=info_parts dp;obtain⟨ao,cap⟩:=hy
 rcases hv with rfl | ⟨g,off,cur,t,e1,e2,e3,e4,e5⟩
 ·clear hyl
  go_enter Tryz.func187,Tryz.ntmps187;go_wp2;refine wp_loop_rounds 1 ?_;rw[rounds_succ];go_wp2;go_ret;exact⟨⟨none,0⟩,rfl,World.ownsRow_nil _ _ _ _,by intro x hx;simp[Hd.blk]at hx,aa.refl _ _⟩
 simp only at e1 e4 e5;subst e1;obtain⟨R,HR⟩:∃R,Hid (R=gA vs (be.map Ex.xs) sy):=⟨_,rfl⟩
 rw[<-HR.out];go_enter Tryz.func187,Tryz.ntmps187;go_wp2
 go_loopg [5,6] sy.length (fun gk sv i wr=>∃(k:Nat) (hd:Hd) (acc:List ByteArray),k<=sy.length/\gk=sy.length-k/\i=.int .i64 k/\sv=.slice hd.ao acc.length hd.cap/\acc.length<=10032/\Hid (R=eX vs (be.map Ex.xs) (sy.drop k) acc)/\au wr hd (am acc)/\(∀x,hd.blk=some x->w.heap.size<=x)/\aa [] w wr)
 case atStart=>exact⟨0,⟨none,0⟩,[],by omega,by omega,rfl,rfl,by simp,HR.out,World.ownsRow_nil _ _ _ _,by intro x hx;simp[Hd.blk]at hx,aa.refl _ _⟩
 case round =>
  obtain⟨k,hd,acc,hk,hg,rfl,rfl,hal,hRk,hO,hN,hK⟩:=hrel;have hS:=h.still hK
  by_cases hlt:k<sy.length
  ·by_cases ha:acc.length<=32
   ·have hai:(acc.length:Int)<=32:=by omega
    have c2:wr.cell? ⟨g,off+k,none⟩=some (.string sy[k]):=(ab (hK.get e2 (by simp)) (off+k)).trans (e3 k sy[k] (List.getElem?_eq_getElem hlt));have HRN:=(show Hid _ from hRk.out.trans (EB vs (be.map Ex.xs) sy acc k hlt ha));have HSF:=(show Hid _ from fun w1 h1=>Ah b vs be H sy[k] w1 h1 (by omega));clear hRk e3;generalize sy[k]=y at *
    rcases hp:aL vs y with _ | p
    ·have HRM:Hid (R=eX vs (be.map Ex.xs) (sy.drop (k+1)) (acc++[y])):=by show _=_;rw[HRN.out];simp[i6,hp]
     have hO4:=hO.moved (fun x hx=>((aa.refl [] wr).alloc (.cells #[.string y] 9)).block x (hO.lt hx) (by simp));clear HRN
     go_upto_region 7 with (go_at_call 192;refine(HSF.out _ hS).mono ?_;rintro e w3 ⟨rfl,hw3⟩;rw[hw3,hp];simp only[bQ])
     go_wp2_with (at_builtin;refine ay _ rfl (.tmp 27) (.tmp 32) 22 rfl i0 (.string ⟨#[]⟩) 16 hd (am acc) Tryz.underlying22 hi hz0 hz1 hz2 rfl Nat.one_pos rfl (by exact hO4) ⟨_,0,none⟩ 1 1 [.string y] rfl rfl ?d1 ?d2 Nat.one_pos ?d3 ?d4 ?_)
     case d1=>intro j u hj;match j,hj with | 0,hj=>simp at hj;subst hj;simp[Addr.add]
     case d2=>intro u hu;simp at hu;subst hu;rfl
     case d3=>simp only[am];unfold maxLen;omega
     case d4=>simp only[am];omega
     intro g5 cap5 w5 hw5 hgr5 hfresh5;rw[bE acc y]at hw5;have hK4:=hK.alloc (.cells #[.string y] 9);have hK5:=hK4.grown hgr5 hN
     have hg5:w.heap.size<=g5:=by
      rcases hfresh5 with e | e
      ·exact hN g5 e
      ·have:=hK4.size;simp at e this;omega
     have hEl:Hid ((am acc).n+1=(acc++[y]).length):=by show _=_;simp[am]
     rw[hEl.out];clear hgr5 hfresh5 hO4;go_wp2
     go_roundg (sy.length-(k+1))
     case measure=>omega
     case rel=>exact⟨k+1,⟨some ⟨g5,0,none⟩,cap5⟩,acc++[y],by omega,rfl,by go_num,rfl,by simp;omega,HRM.out,hw5,by intro x hx;simp[Hd.blk]at hx;omega,hK5⟩
    ·have hpl:p<vs.length:=by
      have:=List.mem_of_find?_eq_some hp;simpa using this
     have hle:=h.len;have hpb:p<be.length:=by omega
     have HRM:Hid (R=eX vs (be.map Ex.xs) (sy.drop (k+1)) (acc++be[p].xs)):=by show _=_;rw[HRN.out];simp[i6,hp,hpb]
     have hex:=hS.exs be[p] (List.getElem_mem hpb);have hxl:=hbl be[p] (List.getElem_mem hpb);obtain⟨ad,had⟩:=hex.adr;have hnc:=hex.view.cells had;obtain⟨s0,s1⟩:=hS.cells;have hOB:au wr (H 1) (cE be):=hS.bag.own 1
     rcases hOB.ways with ⟨_,h0,_⟩ | ⟨gb,curb,eb,-,eb3,-⟩
     ·have:be.length=0:=h0
      omega
     have cb:=hOB.cell eb p (od be[p]) (mm be p hpb);have hcpb:be.length<=(H 1).cap:=eb3;rw[eb]at s1;unfold od at cb;rw[had]at cb;have HNC:=(show Hid _ from hnc);clear HRN hex had hnc hOB eb;generalize be[p]=ex at *;obtain⟨exh,exs⟩:=ex;simp only at cb hxl HRM HNC
     go_upto_region 8 with (go_at_call 192;refine(HSF.out _ hS).mono ?_;rintro e w3 ⟨rfl,hw3⟩;rw[hw3,hp];simp only[bQ])
     go_wp2_with (at_builtin;refine mR _ rfl (.tmp 34) (.tmp 41) 22 rfl i0 (.string ⟨#[]⟩) 16 hd (am acc) Tryz.underlying22 hi hz0 hz1 hz2 rfl Nat.one_pos rfl (by exact hO) ad exs.length exh.cap (strs exs) rfl (by simp[strs,am]) HNC.out ?d2 ?d3 ?d4 ?_)
     case d2=>intro u hu;simp[strs]at hu;obtain⟨_,_,rfl⟩:=hu;rfl
     case d3=>simp only[am];unfold maxLen;omega
     case d4=>simp only[am];omega
     intro hd5 w5 hw5 hgr5 hfresh5;rw[z7 acc exs]at hw5;have hK5:=hK.grown hgr5 hN
     have hg5:∀x,hd5.blk=some x->w.heap.size<=x:=by
      intro x hx
      rcases hfresh5 with e | e
      ·exact hN x (e ▸ hx)
      ·rw[e]at hx;cases hx;exact hK.size
     have hEl:Hid ((am acc).n+exs.length=(acc++exs).length):=by show _=_;simp[am]
     rw[hEl.out];clear hgr5 hfresh5;go_wp2
     go_roundg (sy.length-(k+1))
     case measure=>omega
     case rel=>exact⟨k+1,hd5,acc++exs,by omega,rfl,by go_num,rfl,by simp;omega,HRM.out,hw5,hg5,hK5⟩
   ·have hai:¬(acc.length:Int)<=32:=by omega
    have HRM:Hid (acc=R):=(hRk.out.trans (zX _ _ _ _ ha)).symm;clear hRk e3;go_wp2;go_ret;exact⟨hd,by rw[<-HRM.out];rfl,by rw[<-HRM.out];exact hO,hN,hK⟩
  ·have HRM:Hid (acc=R):=(hRk.out.trans (CJ _ _ _ _ _ hlt)).symm
   clear hRk e3;go_wp2;go_ret;exact⟨hd,by rw[<-HRM.out];rfl,by rw[<-HRM.out];exact hO,hN,hK⟩
end Go.Proofs.YtlbhbocbakijbaaGreat

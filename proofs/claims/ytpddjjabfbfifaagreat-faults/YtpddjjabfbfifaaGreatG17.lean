import Derived.Deep.RegionHeld3
import Derived.Test.YtpddjjabfbfifaaGreatG16
namespace Go.Proofs.YtpddjjabfbfifaaGreat
open Go.RowKit
set_option maxHeartbeats 40000000
def ce(c:kP)(n:Nat)(p:Pl):Int×kP :=
 if 65<=n/\n<=84 then js c (n-64) p
 else if 85<=n/\n<=89 then(0,ly c (n-84))
 else if n=90/\c.behind=true then(0,{ c with tagged:=c.tagged++[c.steps.length-1],behind:=false })
 else if n=63/\c.digits=0 then(0,dL c ⟨1,0,p⟩)
 else(4,c)
set_option maxRecDepth 100000 in
theorem tn(b:Nat)(c:kP)(H:Nat->Hd)(n:Nat)(f:ByteArray)(l co:Int)(w:World)(h:dr w b c H)(ok:fD c 10000000)(hn:n<256) :
  Calls Tryz.prog 217 #[.pointer (some ⟨b,0,none⟩),.int .u8 n,.agg #[.string f,.int .i64 l,.int .i64 co]] w fun e w'=>e=.returned (.int .i64 (ce c n ⟨f,l,co⟩).1)/\∃H',dr w' b (ce c n ⟨f,l,co⟩).2 H'/\aw b w H w' H':=by
 have hsl:=ok.steps;have htl:=ok.tagged;obtain⟨W,HW,K,B,p0,p1,p2⟩:=FC w f l co;have hC:=h.still K;clear h;obtain⟨c0,c1,c2,c3,c4⟩:=hC.cells;have hfr:=aR.free hC;have hbW:=aR.lt hC
 by_cases h1:65<=n/\n<=84
 ·have HT:Hid (ce c n ⟨f,l,co⟩=js c (n-64) ⟨f,l,co⟩):=if_pos h1
  have EN:=fun(w':World) (h':dr w' b c H)=>uN b c H (n-64) f l co w' h' ok (by omega) (by omega)
  have HEN:=(show Hid _ from EN);obtain⟨a1,a2⟩:=h1;have he:(n:Int)-65+1=((n-64:Nat):Int):=by omega
  clear EN c0 c1 c2 c3 c4;generalize hq:n-64=q at *;go_enter Tryz.func217,Tryz.ntmps217
  go_upto_region 1 with fail
  rw[HW.out];go_wp2_with fail;refine(HEN.out _ hC).mono ?_;rintro e w2 ⟨rfl,H2,D2,T2⟩;go_wp2;go_ret;exact⟨am (by rw[HT.out]),H2,by rw[HT.out];exact D2,aw.first K T2⟩
 ·by_cases h2:85<=n/\n<=89
  ·have HT:Hid (ce c n ⟨f,l,co⟩=(0,ly c (n-84))):=by show _=_;unfold ce;rw[if_neg h1,if_pos h2]
   obtain⟨a1,a2⟩:=h2;have TD:=fun(w':World) (h':dr w' b c H)=>uZ b c H (n-84) w' h' ok (by omega)
   have HTD:=(show Hid _ from TD);have he:(n:Int)-85+1=((n-84:Nat):Int):=by omega
   have h1':¬n<=84:=by omega
   clear TD c0 c1 c2 c3 c4 h1;generalize hq:n-84=q at *;go_enter Tryz.func217,Tryz.ntmps217
   go_upto_region 1 with fail
   rw[HW.out];go_wp2_with fail;refine(HTD.out _ hC).mono ?_;rintro e w2 ⟨rfl,D2,T2⟩;go_wp2;go_ret;exact⟨am (by rw[HT.out]),H,by rw[HT.out];exact D2,aw.first K T2⟩
  ·by_cases h3:n=90/\c.behind=true
   ·have HT:Hid (ce c n ⟨f,l,co⟩=(0,{ c with tagged:=c.tagged++[c.steps.length-1],behind:=false })):=by show _=_;unfold ce;rw[if_neg h1,if_neg h2,if_pos h3]
    obtain⟨rfl,hbh⟩:=h3;have hpos:=ok.behind hbh;rw[hbh]at c4;obtain⟨sl,hsl'⟩:∃sl,c.steps.length-1=sl:=⟨_,rfl⟩
    have he:(c.steps.length:Int)-1=(sl:Int):=by omega
    rw[hsl']at HT;have hwr:IntKind.i64.wrap (sl:Int)=(sl:Int):=by rw[IntKind.wrap_i64];omega
    obtain⟨i0,hi,hz0,hz1,hz2⟩:=info_parts vw;have hD:Hid (dr (W.alloc (.cells #[.int .i64 sl] 3)).drew b c H):=hC.still ((ab.refl [] W).alloc _).drew
    have s2:Hid (∀j u,([.int .i64 sl]:List Value)[j]?=some u->(W.alloc (.cells #[.int .i64 sl] 3)).drew.cell? ((⟨W.heap.size,0,none⟩:Addr).add j)=some u):=by
     intro j u hj;have hk:(W.alloc (.cells #[.int .i64 sl] 3)).drew.heap[W.heap.size]?=some (.cells #[.int .i64 sl] 3 (0,0)):=heap_alloc_new _ _;rw[bK,aa hk];simpa using hj
    have s3:Hid (∀u∈([.int .i64 sl]:List Value),u.oneCell'=true):=by intro u hu;simp at hu;subst hu;rfl
    have s4:Hid ((bq c.tagged).n+1<=maxLen):=by show _<=_;simp only[bq];unfold maxLen;omega
    have s5:Hid (((bq c.tagged).n+1)*8<=140737488355328):=by show _<=_;simp only[bq];omega
    have hrw:Hid (∀j,j≠1->tE { c with tagged:=c.tagged++[sl] } j=tE c j):=by
     intro j hj
     match j,hj with
     | 0,_=>rfl
     | 1,hj=>exact absurd rfl hj
     | 2,_=>rfl
     | m+3,_=>rfl
    clear c0 c3 h1 h2 p0 p1 p2;go_enter Tryz.func217,Tryz.ntmps217
    go_upto_region 1 with fail
    rw[HW.out];go_wp2_with fail
    go_region_law (refine cd rfl (.tmp 44) (.tmp 51) 26 rfl i0 (.int .i64 0) 8 (H 1) (bq c.tagged) Tryz.underlying26 hi hz0 hz1 hz2 rfl Nat.one_pos (by simp[Act.eval] <;> rfl) (aR.own hD.out 1) ⟨W.heap.size,0,none⟩ 1 1 [.int .i64 sl] (by simp[Act.eval]) rfl s2.out s3.out Nat.one_pos s4.out s5.out ?_;intro g cap' w1 hw1 hgr hfresh;obtain⟨k5,f5,HP⟩:=aR.app hD.out (cs':=j9 { c with tagged:=c.tagged++[sl] } (fI H 1 ⟨some ⟨g,0,none⟩,cap'⟩)) (rows':=tE { c with tagged:=c.tagged++[sl] }) 1 1 g cap' ((bq c.tagged).n+1) _ hw1 (kT c.tagged sl) hgr (by simpa using hfresh) hrw.out (.slice (H 1).ao c.tagged.length (H 1).cap) rfl (by simp[j9,fI,bq]);clear hw1 hgr hfresh)
    all_goals
     have D2:=(show Hid _ from aR.set HP.out.1 4 (.bool false));have hb4:=(aR.cell HP.out.1 4);have hf4:=aR.free HP.out.1;simp only[j9,List.getElem?_cons_succ,List.getElem?_cons_zero,hbh]at hb4;clear c1 c2 c4 hfr k5 f5;go_wp2;go_ret;exact⟨am (by rw[HT.out]),_,by rw[HT.out];exact D2.out.1,((HP.out.2.first ((ab.refl [] _).alloc _).drew).first K).trans D2.out.2⟩
   ·by_cases h4:n=63/\c.digits=0
    ·have HT:Hid (ce c n ⟨f,l,co⟩=(0,dL c ⟨1,0,⟨f,l,co⟩⟩)):=by show _=_;unfold ce;rw[if_neg h1,if_neg h2,if_neg h3,if_pos h4]
     obtain⟨rfl,hdz⟩:=h4;rw[hdz]at c3;clear c0 c1 c2 h1 h2 h3;go_enter Tryz.func217,Tryz.ntmps217
     go_upto_region 1 with fail
     rw[HW.out];go_wp2_with fail;refine(nK b c H 1 0 f l co _ hC ok).mono ?_;rintro e w2 ⟨rfl,H2,D2,T2,-⟩;go_wp2;go_ret;exact⟨am (by rw[HT.out]),H2,by rw[HT.out];exact D2,aw.first K T2⟩
    ·have HT:Hid (ce c n ⟨f,l,co⟩=(4,c)):=by show _=_;unfold ce;rw[if_neg h1,if_neg h2,if_neg h3,if_neg h4]
     clear c0 c1 c2
     by_cases e90:n=90
     ·have hbh:c.behind=false:=by
       cases hq:c.behind with
       | false=>rfl
       | true=>exact absurd ⟨e90,hq⟩ h3
      rw[hbh]at c4;subst e90;clear h1 h2 h3 h4;go_enter Tryz.func217,Tryz.ntmps217
      go_upto_region 1 with fail
      rw[HW.out];go_wp2;go_ret;exact⟨am (by rw[HT.out]),H,by rw[HT.out];exact hC,(aw.refl _ _ _).still K⟩
     ·by_cases e63:n=63
      ·have hdz:¬c.digits=0:=fun hh=>h4 ⟨e63,hh⟩
       have hdz':((c.digits:Int)==0)=false:=beq_eq_false_iff_ne.2 (by omega);subst e63;clear h1 h2 h3 h4 hdz;go_enter Tryz.func217,Tryz.ntmps217
       go_upto_region 1 with fail
       rw[HW.out];go_wp2;go_ret;exact⟨am (by rw[HT.out]),H,by rw[HT.out];exact hC,(aw.refl _ _ _).still K⟩
      ·have e1:((n:Int)==90)=false:=beq_eq_false_iff_ne.2 (by omega)
       have e2:((n:Int)==63)=false:=beq_eq_false_iff_ne.2 (by omega);clear h3 h4 c3 c4
       by_cases a1:65<=n
       ·have a2:¬n<=84:=by omega
        have a3:85<=n:=by omega
        have a4:¬n<=89:=by omega
        clear h1 h2;go_enter Tryz.func217,Tryz.ntmps217
        go_upto_region 1 with fail
        rw[HW.out];go_wp2;go_ret;exact⟨am (by rw[HT.out]),H,by rw[HT.out];exact hC,(aw.refl _ _ _).still K⟩
       ·have a3:¬85<=n:=by omega
        clear h1 h2;go_enter Tryz.func217,Tryz.ntmps217
        go_upto_region 1 with fail
        rw[HW.out];go_wp2;go_ret;exact⟨am (by rw[HT.out]),H,by rw[HT.out];exact hC,(aw.refl _ _ _).still K⟩
theorem fD.letter{c:kP}{N:Nat}(h:fD c N)(n:Nat)(p:Pl):fD (ce c n p).2 (N+1):=by
  have h1:=h.names;have h2:=h.tagged;have h3:=h.steps;have h4:=h.digits;have h5:=h.behind;unfold ce
  split
  · unfold js dL
    split
    · exact⟨by simp only;omega,by simp only;omega,by simp;omega,by simp,by simp⟩
    · split
      · exact⟨by simp only;omega,by simp only;omega,by simp;omega,by simp,by simp⟩
      · exact⟨by simp only;omega,by simp only;omega,by simp only;omega,by simp,h5⟩
  · split
    · next hc =>
      unfold ly
      split
      · exact⟨by simp only;omega,by simp only;omega,by simp only;omega,by simp only;omega,by simp⟩
      · exact⟨by simp only;omega,by simp only;omega,by simp only;omega,by simp only;omega,by simp⟩
    · split
      · exact⟨by simp only;omega,by simp;omega,by simp only;omega,by simp only;omega,by simp⟩
      · split
        · exact⟨by simp only[dL];omega,by simp only[dL];omega,by simp[dL];omega,by simp only[dL];omega,by simp[dL]⟩
        · exact⟨by simp only;omega,by simp only;omega,by simp only;omega,by simp only;omega,h5⟩
def gI(t:ByteArray)(p:Pl):Nat->Nat->kP->oR×kP
  | 0,_,c=>(cI,c)
  | f+1,j,c =>
    if j<t.size then
      (if((ce c (aF t j).toNat { p with col:=p.col+j }).1==0)=true then gI t p f (j+1) (ce c (aF t j).toNat { p with col:=p.col+j }).2
       else(((ce c (aF t j).toNat { p with col:=p.col+j }).1,{ p with col:=p.col+j }),(ce c (aF t j).toNat { p with col:=p.col+j }).2))
    else(cI,c)
def lh(t:ByteArray)(p:Pl)(c:kP):oR×kP:=gI t p (t.size+1) 0 c
theorem Lq(t:ByteArray)(p:Pl)(f j:Nat)(c:kP)(hj:j<t.size)(h:((ce c (aF t j).toNat { p with col:=p.col+j }).1==0)=true) :
    gI t p (f+1) j c=gI t p f (j+1) (ce c (aF t j).toNat { p with col:=p.col+j }).2:=by rw[gI,if_pos hj,if_pos h]
theorem Jg(t:ByteArray)(p:Pl)(f j:Nat)(c:kP)(hj:j<t.size)(h:((ce c (aF t j).toNat { p with col:=p.col+j }).1==0)=false) :
    gI t p (f+1) j c=(((ce c (aF t j).toNat { p with col:=p.col+j }).1,{ p with col:=p.col+j }),(ce c (aF t j).toNat { p with col:=p.col+j }).2):=by rw[gI,if_pos hj,if_neg (by rw[h];simp)]
theorem KG(t:ByteArray)(p:Pl)(f j:Nat)(c:kP)(hj:¬j<t.size):gI t p (f+1) j c=(cI,c):=by rw[gI,if_neg hj]
theorem cw{w:World}{r:Nat}(h:w.heap[r]?=some (.cells aZ 165 (0,0))) :
    w.cell? ⟨r,0,none⟩=some (.int .i64 0)/\w.cell? ⟨r,1,none⟩=some (.string ⟨#[]⟩)/\w.cell? ⟨r,2,none⟩=some (.int .i64 0)/\w.cell? ⟨r,3,none⟩=some (.int .i64 0):=by
  refine⟨?_,?_,?_,?_⟩ <;> (rw[aa h];rfl)
theorem sG{w w2:World}{b t F:Nat}{cs:List Value}{rows:Nat->dK}{H H2:Nat->Hd}(D:aR w2 b t cs rows H2)(T:aw b w H w2 H2)(h1:w.heap.size<=F)(h2:b≠F)(h3:¬fk H2 F)(a0 a1 a2 a3:Value) :
    aR ((((w2.setCell ⟨F,0,none⟩ a0).setCell ⟨F,1,none⟩ a1).setCell ⟨F,2,none⟩ a2).setCell ⟨F,3,none⟩ a3) b t cs rows H2 /\
    aw b w H ((((w2.setCell ⟨F,0,none⟩ a0).setCell ⟨F,1,none⟩ a1).setCell ⟨F,2,none⟩ a2).setCell ⟨F,3,none⟩ a3) H2:=by
  refine⟨D.kept (ie _ _ _ _) (by simpa using h2) (fun x hx=>by simp;rintro rfl;exact h3 hx),?_,T.2⟩;exact(((T.1.setCell (Or.inr h1) _).setCell (Or.inr h1) _).setCell (Or.inr h1) _).setCell (Or.inr h1) _
set_option maxRecDepth 100000 in
theorem xx(b:Nat)(c:kP)(H:Nat->Hd)(t f:ByteArray)(l co:Int)(w:World)(h:dr w b c H)(N:Nat)(ok:fD c N)(hN:N+t.size<=10000000)(hco:-1000000000<=co/\co<=1000000000) :
    Calls Tryz.prog 184 #[.pointer (some ⟨b,0,none⟩),.agg #[.string t,.string f,.int .i64 l,.int .i64 co]] w fun e w'=>e=.returned (gx (lh t ⟨f,l,co⟩ c).1)/\∃H',dr w' b (lh t ⟨f,l,co⟩ c).2 H'/\aw b w H w' H':=by
  obtain⟨W,hW⟩:∃W,W=(w.alloc (.cells #[.string t,.string f,.int .i64 l,.int .i64 co] 229)).alloc (.cells #[.int .i64 0,.string ⟨#[]⟩,.int .i64 0,.int .i64 0] 165):=⟨_,rfl⟩
  have K:ab [] w W:=by rw[hW];exact((ab.refl [] _).alloc _).alloc _
  have BW:W.heap[w.heap.size]?=some (.cells #[.string t,.string f,.int .i64 l,.int .i64 co] 229 (0,0)):=by rw[hW];exact((ab.refl [] _).alloc _).get (heap_alloc_new _ _) (by simp)
  have BF:W.heap[w.heap.size+1]?=some (.cells aZ 165 (0,0)):=by
    rw[hW];have:=heap_alloc_new (w.alloc (.cells #[.string t,.string f,.int .i64 l,.int .i64 co] 229)) (.cells #[.int .i64 0,.string ⟨#[]⟩,.int .i64 0,.int .i64 0] 165);simpa [aZ] using this
  have hWs:W.heap.size=w.heap.size+2:=by rw[hW];simp
  have hbw:=aR.lt h;have HNI:Hid (∀k,w.heap.size<=k->¬fk H k):=fun k hk hm=>by have:=aR.inlt h hm;omega
  have hC:=h.still K;have HW:=(show Hid _ from hW.symm);have u0:W.cell? ⟨w.heap.size,0,none⟩=some (.string t):=by rw[aa BW];rfl
  have u1:W.cell? ⟨w.heap.size,1,none⟩=some (.string f):=by rw[aa BW];rfl
  have u2:W.cell? ⟨w.heap.size,2,none⟩=some (.int .i64 l):=by rw[aa BW];rfl
  have u3:W.cell? ⟨w.heap.size,3,none⟩=some (.int .i64 co):=by rw[aa BW];rfl
  clear hW;go_enter Tryz.func184,Tryz.ntmps184
  go_upto_region 1 with fail
  rw[HW.out];go_wp2
  go_loopg [6] t.size (fun gk i wr=>∃(j:Nat) (c':kP) (H':Nat->Hd) (fu:Nat),j<=t.size/\gk=t.size-j/\i=.int .i64 j/\fD c' (N+j)/\t.size-j+1<=fu/\Hid (lh t ⟨f,l,co⟩ c=gI t ⟨f,l,co⟩ fu j c')/\dr wr b c' H'/\aw b w H wr H' /\
    wr.heap[w.heap.size]?=some (.cells #[.string t,.string f,.int .i64 l,.int .i64 co] 229 (0,0))/\wr.heap[w.heap.size+1]?=some (.cells aZ 165 (0,0))/\wr.heap[w.heap.size+2]?=some (.cells #[.string f,.int .i64 l,.int .i64 (co+j)] 36 (0,0))/\¬fk H' w.heap.size/\¬fk H' (w.heap.size+1)/\¬fk H' (w.heap.size+2))
  case atStart =>
    refine⟨0,c,H,t.size+1,by omega,by omega,rfl,ok,by omega,rfl,hC.still ((ab.refl [] _).alloc _),(aw.refl _ _ _).still (K.alloc _),((ab.refl [] _).alloc _).get BW (by simp),((ab.refl [] _).alloc _).get BF (by simp),?_,HNI.out _ (by omega),HNI.out _ (by omega),HNI.out _ (by omega)⟩;rw[<-hWs];have:=heap_alloc_new W (.cells #[.string f,.int .i64 l,.int .i64 co] 36);simpa using this
  case round =>
    obtain⟨j,c',H',fu,hj,hg,rfl,ok',hfu,hR,hC',hT,B1,B2,B3,n1,n2,n3⟩:=hrel;clear u0 u1 u2 u3 BW BF hC HW;have u0:wr.cell? ⟨w.heap.size,0,none⟩=some (.string t):=by rw[aa B1];rfl
    have v0:wr.cell? ⟨w.heap.size+2,0,none⟩=some (.string f):=by rw[aa B3];rfl
    have v1:wr.cell? ⟨w.heap.size+2,1,none⟩=some (.int .i64 l):=by rw[aa B3];rfl
    have v2:wr.cell? ⟨w.heap.size+2,2,none⟩=some (.int .i64 (co+j)):=by rw[aa B3];rfl
    obtain⟨fu',rfl⟩:∃fu',fu=fu'+1:=⟨fu-1,by omega⟩
    by_cases hlt:j<t.size
    · have hbt:(aF t j).toNat=t[j].toNat:=by rw[bI t j hlt];rfl
      have L1:=Lq t ⟨f,l,co⟩ fu' j c' hlt;have L2:=Jg t ⟨f,l,co⟩ fu' j c' hlt;have OKN:=ok'.letter t[j].toNat { (⟨f,l,co⟩:Pl) with col:=co+j };have h256:t[j].toNat<256:=UInt8.toNat_lt _;have TL:=fun(w':World) (h':dr w' b c' H')=>tn b c' H' t[j].toNat f l (co+j) w' h' ⟨by have:=ok'.names;omega,by have:=ok'.tagged;omega,by have:=ok'.steps;omega,by have:=ok'.digits;omega,ok'.behind⟩ h256
      rw[hbt]at L1 L2;simp only at L1 L2 OKN;have HL1:=(show Hid _ from L1);have HL2:=(show Hid _ from L2);have HTL:=(show Hid _ from TL);clear L1 L2 TL hbt;generalize ce c' t[j].toNat ⟨f,l,co + ↑j⟩=Q at *;obtain⟨r,c2⟩:=Q;simp only at HL1 HL2 HTL OKN
      have HCE:Hid (∀(w9:World) (H9:Nat->Hd) (_:aw b wr.drew H' w9 H9),w9.heap[w.heap.size]?=some (.cells #[.string t,.string f,.int .i64 l,.int .i64 co] 229 (0,0))/\w9.heap[w.heap.size+1]?=some (.cells aZ 165 (0,0))/\w9.heap[w.heap.size+2]?=some (.cells #[.string f,.int .i64 l,.int .i64 (co+j)] 36 (0,0))):=by
        intro w9 H9 T9;exact⟨T9.1.get (by exact B1) (by rintro (e | e);omega;exact n1 e),T9.1.get (by exact B2) (by rintro (e | e);omega;exact n2 e),T9.1.get (by exact B3) (by rintro (e | e);omega;exact n3 e)⟩
      have HCC:Hid (∀(w9:World) (H9:Nat->Hd) (_:aw b wr.drew H' w9 H9),w9.cell? ⟨w.heap.size,0,none⟩=some (.string t)/\w9.cell? ⟨w.heap.size+2,0,none⟩=some (.string f)/\w9.cell? ⟨w.heap.size+2,1,none⟩=some (.int .i64 l)/\w9.cell? ⟨w.heap.size+2,2,none⟩=some (.int .i64 (co+j))):=by
        intro w9 H9 T9;obtain⟨q1,q2,q3⟩:=HCE.out w9 H9 T9;refine⟨by rw[aa q1];rfl,by rw[aa q3];rfl,by rw[aa q3];rfl,by rw[aa q3];rfl⟩
      have hs1:=ae B1;have hs2:=ae B2;have hs3:=ae B3
      cases hr:(r==0)
      · have hr':(r != 0)=true:=by simp[bne,hr]
        have HF:=(show Hid _ from hR.out.trans (HL2.out hr));clear hR HL1 HL2
        go_upto_region 5 with fail
        go_region_held3 (fun w'=>w'.cell? ⟨w.heap.size,0,none⟩=some (.string t)/\w'.cell? ⟨w.heap.size+2,0,none⟩=some (.string f)/\w'.cell? ⟨w.heap.size+2,1,none⟩=some (.int .i64 l)/\w'.cell? ⟨w.heap.size+2,2,none⟩=some (.int .i64 (co+j))) (go_keep) (first | (go_at_call 217;refine(HTL.out _ (by exact hC'.still (ab.refl [] _).drew)).mono ?_;rintro e w9 ⟨rfl,H9,D9,T9⟩;obtain⟨x0,x1,x2,x3⟩:=HCC.out w9 H9 T9))
        all_goals
          obtain⟨q1,q2,q3⟩:=HCE.out w9 H9 T9;obtain⟨j0,j1,j2,j3⟩:=cw q2;have y:=ak q2;have m2:=T9.fresh (w.heap.size+1) (by exact hs2) n2;have HA:=(show Hid _ from fun a0 a1 a2 a3=>sG D9 (hT.trans (aw.first (ab.refl [] _).drew T9)) (F:=w.heap.size+1) (by omega) (by omega) m2 a0 a1 a2 a3);go_wp2
          exact bodyPost_ret (v:=.agg #[.int .i64 r,.string f,.int .i64 l,.int .i64 (co+j)]) (by simp[results,Tryz.results184,go_sem,j0,j1,j2,j3]) rfl
            ⟨by rw[HF.out];rfl,H9,by rw[HF.out];exact(HA.out _ _ _ _).1,(HA.out _ _ _ _).2⟩
      · have hr':(r != 0)=false:=by simp[bne,hr]
        have HF:=(show Hid _ from hR.out.trans (HL1.out hr));clear hR HL1 HL2
        go_upto_region 5 with fail
        go_region_held3 (fun w'=>w'.cell? ⟨w.heap.size,0,none⟩=some (.string t)/\w'.cell? ⟨w.heap.size+2,0,none⟩=some (.string f)/\w'.cell? ⟨w.heap.size+2,1,none⟩=some (.int .i64 l)/\w'.cell? ⟨w.heap.size+2,2,none⟩=some (.int .i64 (co+j))) (go_keep) (first | (go_at_call 217;refine(HTL.out _ (by exact hC'.still (ab.refl [] _).drew)).mono ?_;rintro e w9 ⟨rfl,H9,D9,T9⟩;obtain⟨x0,x1,x2,x3⟩:=HCC.out w9 H9 T9))
        all_goals
          obtain⟨q1,q2,q3⟩:=HCE.out w9 H9 T9;have y:=ak q3;have m1:=T9.fresh w.heap.size (by exact hs1) n1;have m2:=T9.fresh (w.heap.size+1) (by exact hs2) n2;have m3:=T9.fresh (w.heap.size+2) (by exact hs3) n3;have T9':=hT.trans (aw.first (ab.refl [] _).drew T9);go_wp2
          go_roundg (t.size-(j+1))
          case measure=>omega
          case rel =>
            have kk:ab [w.heap.size+2] w9 (w9.setCell ⟨w.heap.size+2,2,none⟩ (.int .i64 (co + ↑j+1))):=(ab.refl _ _).setCell (Or.inl (by simp)) _;refine⟨j+1,c2,H9,fu',by omega,rfl,by go_num,by rw[<-Nat.add_assoc];exact OKN,by omega,HF.out,aR.kept D9 kk (by simp;omega) (by intro x hx;simp;rintro rfl;exact m3 hx),⟨T9'.1.setCell (Or.inr (by simp)) _,T9'.2⟩,kk.get q1 (by simp),kk.get q2 (by simp),?_,m1,m2,m3⟩;rw[ah q3,show co+(↑(j+1):Int)=co + ↑j+1 by omega];rfl
    · have HF:=(show Hid _ from hR.out.trans (KG t ⟨f,l,co⟩ fu' j c' hlt))
      obtain⟨j0,j1,j2,j3⟩:=cw B2;have y:=ak B2;have HA:=(show Hid _ from fun a0 a1 a2 a3=>sG hC' hT (F:=w.heap.size+1) (by omega) (by omega) n2 a0 a1 a2 a3);clear hR;go_wp2
      exact bodyPost_ret (v:=.agg #[.int .i64 0,.string ⟨#[]⟩,.int .i64 0,.int .i64 0]) (by simp[results,Tryz.results184,go_sem,j0,j1,j2,j3]) rfl
        ⟨by rw[HF.out];rfl,H',by rw[HF.out];exact(HA.out _ _ _ _).1,(HA.out _ _ _ _).2⟩
def iD(l:List Nat)(x:Nat):Bool:=l.any (fun y=>y==x)
theorem zX(l:List Nat)(x k:Nat)(h:k<l.length)(he:iD l x=iD (l.drop k) x)(hb:(l[k]==x)=true):iD l x=true:=by
 rw[he,List.drop_eq_getElem_cons h];simp only[iD,List.any_cons,hb,Bool.true_or]
theorem wj(l:List Nat)(x k:Nat)(h:k<l.length)(he:iD l x=iD (l.drop k) x)(hb:(l[k]==x)=false):iD l x=iD (l.drop (k+1)) x:=by
 rw[he,List.drop_eq_getElem_cons h];simp only[iD,List.any_cons,hb,Bool.false_or]
theorem vI(l:List Nat)(x k:Nat)(h:¬k<l.length)(he:iD l x=iD (l.drop k) x):iD l x=false:=by
 rw[he,List.drop_of_length_le (by omega)];rfl
theorem mA(a b:Nat):((a:Int)==(b:Int))=(a==b):=by
 cases h:(a==b)
 ·exact beq_eq_false_iff_ne.2 (by have:=beq_eq_false_iff_ne.1 h;omega)
 ·have:=eq_of_beq h;subst this;simp
theorem zP(hd:Hd)(l:List Nat)(x:Nat)(w:World)(ho:aA w hd (bq l))(hl:l.length<=1073741824) :
  Calls Tryz.prog 216 #[.slice hd.ao l.length hd.cap,.int .i64 x] w fun e w'=>e=.returned (.bool (iD l x))/\w'=w:=by
 obtain⟨ao,cap⟩:=hd
 rcases ho.ways with ⟨e0,h0,_⟩ | ⟨g,cur,e1,_⟩
 ·have h0':l.length=0:=h0
  have hl0:l=[]:=List.eq_nil_of_length_eq_zero h0';subst hl0;clear ho h0 h0' hl e0;go_enter Tryz.func216,Tryz.ntmps216;go_wp2;refine wp_loop_rounds 1 ?_;rw[rounds_succ];go_wp2;go_ret;exact⟨rfl,rfl⟩
 ·simp only at e1
  subst e1;go_enter Tryz.func216,Tryz.ntmps216;go_wp2
  go_loopg [5] l.length (fun g i wr=>∃k:Nat,k<=l.length/\g=l.length-k/\i=.int .i64 k/\Hid (iD l x=iD (l.drop k) x)/\wr=w)
  case atStart=>exact⟨0,by omega,by omega,rfl,rfl,rfl⟩
  case round =>
   obtain⟨k,hk,hg,rfl,hs,rfl⟩:=hrel
   by_cases hlt:k<l.length
   ·have c1:=ho.cell rfl k (.int .i64 l[k]) (ka l k hlt)
    cases hb:(l[k]==x)
    ·have HM:Hid (iD l x=iD (l.drop (k+1)) x):=wj l x k hlt hs.out hb
     have hb':=(mA l[k] x).trans hb;clear hs ho hb;go_wp2
     go_roundg (l.length-(k+1))
     case measure=>omega
     case rel=>exact⟨k+1,by omega,rfl,by go_num,HM,rfl⟩
    ·have HM:Hid (iD l x=true):=zX l x k hlt hs.out hb
     have hb':=(mA l[k] x).trans hb;clear hs ho hb;go_wp2;go_ret;exact⟨aB HM.out.symm,rfl⟩
   ·have HM:Hid (iD l x=false):=vI l x k hlt hs.out
    clear hs ho;go_wp2;go_ret;exact⟨aB HM.out.symm,rfl⟩
def db(l:List St)(a:Nat)(fin:Pl):Nat->List (ByteArray×Pl)->List Nat->(Nat×oR)×List Nat
 | _,[],ns=>((0,(3,fin)),ns)
 | i,(t,p) :: r,ns =>
  if(t.toList == [41])=true then((i+1,cI),ns)
  else match lo l t a with
   | none=>((0,(2,p)),ns)
   | some n=>if iD ns n=true then((0,(3,p)),ns) else db l a fin (i+1) r (ns++[n])
theorem ev.far{w w':World}{rb ro:Nat}{l:List St}{H:Nat->Hd}{P:Nat->Prop}{M:Nat}(h:ev w rb ro l H)(k:dX P w w')(hP:∀x,P x->M<=x)(hM:∀x,fk H x->x<M)(hrb:rb<M):ev w' rb ro l H:=by
 obtain⟨arr,t,h1,h2⟩:=h.cell;exact⟨⟨arr,t,k.get h1 (fun e=>by have:=hP _ e;omega),h2⟩,h.sts.keptP k (fun x hx e=>by have:=hP _ e;have:=hM _ hx;omega)⟩
theorem aA.word{w:World}{h:Hd}{l:List (ByteArray×Pl)}(o:aA w h (fA l))(k:Nat)(hk:k<l.length) :
  ∃g,h.ao=some ⟨g,0,none⟩/\l.length<=h.cap/\h.cap<=9223372036854775807/\w.cell? ⟨g,k*4,none⟩=some (.string l[k].1)/\w.cell? ⟨g,k*4+1,none⟩=some (.string l[k].2.file)/\w.cell? ⟨g,k*4+2,none⟩=some (.int .i64 l[k].2.line)/\w.cell? ⟨g,k*4+3,none⟩=some (.int .i64 l[k].2.col):=by
 rcases o.ways with ⟨_,h0,_⟩ | ⟨g,cur,e1,e2,e3,e4,-⟩
 ·have:l.length=0:=h0
  omega
 ·have c:=fun j (hj:j<4) v (hv:(oP l[k])[j]?=some v)=>o.cell e1 (k*4+j) v ((EJ l k hk j hj).trans hv)
  exact⟨g,e1,e3,by unfold maxLen at e4;exact e4,c 0 (by omega) _ rfl,c 1 (by omega) _ rfl,c 2 (by omega) _ rfl,c 3 (by omega) _ rfl⟩
theorem fD.named{c:kP}{N:Nat}(h:fD c N)(n:Nat):fD { c with names:=c.names++[n] } (N+1) :=
 ⟨by have:=h.names;simp;omega,by have:=h.tagged;simp only;omega,by have:=h.steps;simp only;omega,by have:=h.digits;simp only;omega,h.behind⟩
theorem De(l:List St)(a:Nat)(fin:Pl)(i:Nat)(ws:List (ByteArray×Pl))(ns:List Nat)(hi:i<ws.length) :
  db l a fin i (ws.drop i) ns=if(ws[i].1.toList == [41])=true then((i+1,cI),ns)
   else match lo l ws[i].1 a with
    | none=>((0,(2,ws[i].2)),ns)
    | some n=>if iD ns n=true then((0,(3,ws[i].2)),ns) else db l a fin (i+1) (ws.drop (i+1)) (ns++[n]):=by
 rw[List.drop_eq_getElem_cons hi];rfl
theorem Ao(l:List St)(a:Nat)(fin:Pl)(i:Nat)(ws:List (ByteArray×Pl))(ns:List Nat)(hi:¬i<ws.length):db l a fin i (ws.drop i) ns=((0,(3,fin)),ns):=by
 rw[List.drop_of_length_le (by omega)];rfl
set_option maxRecDepth 100000 in
theorem vt(b:Nat)(c:kP)(Hc:Nat->Hd)(rb ro a:Nat)(l:List St)(H:Nat->Hd)(w0 w:World)(h:dr w b c Hc)(hr0:ev w0 rb ro l H)(hk0:ab [] w0 w)(ha:a<l.length)(ok:jH l)(hcn:c.names.length<=10000)
  (hb:w0.heap.size<=b) (hc:∀x,fk Hc x->w0.heap.size<=x) :
  Calls Tryz.prog 183 #[.pointer (some ⟨b,0,none⟩),.pointer (some ⟨rb,ro,none⟩),.int .i64 a] w fun e w' =>
   e=.returned (.tuple #[.int .i64 (db l a l[a].fin 1 (l[a].proof.drop 1) c.names).1.1,gx (db l a l[a].fin 1 (l[a].proof.drop 1) c.names).1.2])/\∃Hc',dr w' b { c with names:=(db l a l[a].fin 1 (l[a].proof.drop 1) c.names).2 } Hc'/\aw b w Hc w' Hc':=by
 obtain⟨i0,hi0,hz0,hz1,hz2⟩:=info_parts vw;have hbw:=aR.lt h;have hr:=hr0.still hk0;have hlen:=ok.len;have hpl:=ok.prfs a ha;have HNI:Hid (∀k,w.heap.size<=k->¬fk Hc k):=fun k hk hm=>by have:=aR.inlt h hm;omega
 obtain⟨AO,HAO⟩:∃AO,Hid ((H (11+2*a)).ao=AO):=⟨_,rfl⟩
 obtain⟨W,hW⟩:∃W,W=w.alloc (.cells #[.int .i64 0,.string ⟨#[]⟩,.int .i64 0,.int .i64 0] 165):=⟨_,rfl⟩
 have K:ab [] w W:=by rw[hW];exact(ab.refl [] _).alloc _
 have BF:W.heap[w.heap.size]?=some (.cells aZ 165 (0,0)):=by rw[hW];exact heap_alloc_new _ _
 have HW:=(show Hid _ from hW.symm);clear hW;go_enter Tryz.func183,Tryz.ntmps183
 go_upto_region 1 with fail
 rw[HW.out];go_wp2_with fail;refine(bb rb ro a l H _ (hr.still K) ha).mono ?_;rintro e w1 ⟨rfl,hk1⟩;unfold eG;rw[HAO.out];obtain⟨W2,hW2⟩:∃W2,W2=w1.alloc (.cells #[.int .i64 l[a].kind,.string l[a].label,.slice (H (10+2*a)).ao l[a].symbols.length (H (10+2*a)).cap,.slice AO l[a].proof.length (H (11+2*a)).cap,.string l[a].fin.file,.int .i64 l[a].fin.line,.int .i64 l[a].fin.col,.int .i64 l[a].til] 158):=⟨_,rfl⟩
 have HW2:=(show Hid _ from hW2.symm);have K2:ab [] w W2:=by rw[hW2];exact(K.trans hk1).alloc _
 have BT:W2.heap[w1.heap.size]?=some (.cells #[.int .i64 l[a].kind,.string l[a].label,.slice (H (10+2*a)).ao l[a].symbols.length (H (10+2*a)).cap,.slice AO l[a].proof.length (H (11+2*a)).cap,.string l[a].fin.file,.int .i64 l[a].fin.line,.int .i64 l[a].fin.col,.int .i64 l[a].til] 158 (0,0)):=by rw[hW2];exact heap_alloc_new _ _
 have BF2:W2.heap[w.heap.size]?=some (.cells aZ 165 (0,0)):=by rw[hW2];exact((ab.refl [] _).alloc _).get (hk1.get BF (by simp)) (by simp)
 have hs1:w.heap.size<w1.heap.size:=by have:=ae (hk1.get BF (by simp));omega
 clear hW2
 go_upto_region 2 with fail
 rw[HW2.out];clear HW HW2 hk1 BF K;obtain⟨TB,hTB⟩:∃TB:Array Value,TB=#[.int .i64 l[a].kind,.string l[a].label,.slice (H (10+2*a)).ao l[a].symbols.length (H (10+2*a)).cap,.slice AO l[a].proof.length (H (11+2*a)).cap,.string l[a].fin.file,.int .i64 l[a].fin.line,.int .i64 l[a].fin.col,.int .i64 l[a].til]:=⟨_,rfl⟩
 rw[<-hTB]at BT;have HTB:=(show Hid _ from hTB);clear hTB;go_wp2
 go_loopg [9] (l[a].proof.length-1) (fun gk iv wr=>∃(i:Nat) (ns:List Nat) (H1:Nat->Hd),1<=i/\i<=10001/\gk=l[a].proof.length-i/\iv=.int .i64 i/\ns.length<=10000+i/\Hid (db l a l[a].fin 1 (l[a].proof.drop 1) c.names=db l a l[a].fin i (l[a].proof.drop i) ns)/\dr wr b { c with names:=ns } H1/\aw b w Hc wr H1 /\
  wr.heap[w.heap.size]?=some (.cells aZ 165 (0,0))/\wr.heap[w1.heap.size]?=some (.cells TB 158 (0,0))/\¬fk H1 w.heap.size/\¬fk H1 w1.heap.size)
 case atStart=>exact⟨1,c.names,Hc,by omega,by omega,rfl,rfl,by omega,rfl,h.still K2,(aw.refl _ _ _).still K2,BF2,BT,HNI.out _ (by omega),HNI.out _ (by omega)⟩
 case round =>
  obtain⟨i,ns,H1,hi1,hi2,hg,rfl,hnl,hR,hC,hT,B1,B2,n1,n2⟩:=hrel;clear BT BF2 K2
  have hP:∀x,(x=b∨fk Hc x)->w0.heap.size<=x:=by
   rintro x (e | e)
   ·omega
   ·exact hc x e
  have hr':ev wr rb ro l H:=hr0.still (hk0.ofP hT.1 hP);have hOp:=hr'.sts.prfs a l[a] (List.getElem?_eq_getElem ha);have hB1w:=ae B1;have hB2w:=ae B2;obtain⟨z0,z1,z2,z3⟩:=cw B1;have yz:=ak B1
  by_cases hlt:i<l[a].proof.length
  ·obtain⟨gp,ep,ecap,ecap2,d0,d1,d2,d3⟩:=hOp.word i hlt
   obtain rfl:AO=some ⟨gp,0,none⟩:=HAO.out.symm.trans ep;have HEP:=(show Hid _ from ep);have t3:wr.cell? ⟨w1.heap.size,3,none⟩=some (.slice (some ⟨gp,0,none⟩) l[a].proof.length (H (11+2*a)).cap):=by rw[aa B2,HTB.out];rfl
   clear ep;have BL:=De l a l[a].fin i l[a].proof ns hlt;have HBL:=(show Hid _ from hR.out.trans BL);clear BL hR hOp;generalize hwd:l[a].proof[i]=wd at *;obtain⟨t,pf,pl,pc⟩:=wd;simp only at d0 d1 d2 d3 HBL;obtain⟨W5,hW5⟩:∃W5,W5=wr.alloc (.cells #[.string t,.string pf,.int .i64 pl,.int .i64 pc] 229):=⟨_,rfl⟩
   have K5:ab [] wr W5:=by rw[hW5];exact(ab.refl [] _).alloc _
   have B5:W5.heap[wr.heap.size]?=some (.cells #[.string t,.string pf,.int .i64 pl,.int .i64 pc] 229 (0,0)):=by rw[hW5];exact heap_alloc_new _ _
   have HW5:=(show Hid _ from hW5.symm);have hgp:gp<wr.heap.size:=(hr'.sts.prfs a l[a] (List.getElem?_eq_getElem ha)).lt (by unfold Hd.blk;rw[HEP.out];rfl);clear hW5
   go_upto_region 6 with fail
   rw[HW5.out];clear HW5 d0 d1 d2 d3 t3 z0 z1 z2 z3 yz;have v0:W5.cell? ⟨wr.heap.size,0,none⟩=some (.string t):=by rw[aa B5];rfl
   have v1:W5.cell? ⟨wr.heap.size,1,none⟩=some (.string pf):=by rw[aa B5];rfl
   have v2:W5.cell? ⟨wr.heap.size,2,none⟩=some (.int .i64 pl):=by rw[aa B5];rfl
   have v3:W5.cell? ⟨wr.heap.size,3,none⟩=some (.int .i64 pc):=by rw[aa B5];rfl
   have C5:=hC.still K5;have T5:=hT.still K5;have R5:=hr'.still K5;have F5:=K5.get B1 (by simp);have S5:=K5.get B2 (by simp);obtain⟨z0,z1,z2,z3⟩:=cw F5;have yz:=ak F5;have HA:=(show Hid _ from fun a0 a1 a2 a3=>sG C5 T5 (F:=w.heap.size) (Nat.le_refl _) (by omega) n1 a0 a1 a2 a3)
   cases ht:(t.toList == [41])
   ·rcases hf:lo l t a with _ | n
    ·have HF:Hid (db l a l[a].fin 1 (l[a].proof.drop 1) c.names=((0,(2,⟨pf,pl,pc⟩)),ns)):=by show _=_;rw[HBL.out,ht,hf];simp
     clear HBL
     go_upto_region 10 with (go_at_call 185;refine(fT rb ro a t l H _ (by exact R5) (by omega)).mono ?_;rintro e w6 ⟨rfl,hw6⟩;rw[hw6,hf];simp only[nX])
     go_region
     all_goals go_wp2
     all_goals exact bodyPost_ret (v:=.tuple #[.int .i64 0,.agg #[.int .i64 2,.string pf,.int .i64 pl,.int .i64 pc]]) (by simp[results,Tryz.results183,go_sem,z0,z1,z2,z3]) rfl ⟨by rw[HF.out];rfl,H1,by rw[HF.out];exact(dr.still (HA.out _ _ _ _).1 (ab.refl [] _).drew),aw.still (HA.out _ _ _ _).2 (ab.refl [] _).drew⟩
    ·obtain⟨k0,k1,k2,k3,k4⟩:=C5.cells
     simp only at k0;clear k1 k2 k3 k4;have hON:aA W5 (H1 0) (bq ns):=aR.own C5 0
     cases hh:iD ns n
     ·have HF:Hid (db l a l[a].fin 1 (l[a].proof.drop 1) c.names=db l a l[a].fin (i+1) (l[a].proof.drop (i+1)) (ns++[n])):=by show _=_;rw[HBL.out,ht,hf];simp[hh]
      have hA6:=C5.still ((ab.refl [] W5).alloc (.cells #[.int .i64 n] 3));have hfr:=aR.free C5;have hbW:=aR.lt C5
      have hrw:Hid (∀j,j≠0->tE { c with names:=ns++[n] } j=tE { c with names:=ns } j):=by
       intro j hj
       match j,hj with
       | 0,hj=>exact absurd rfl hj
       | 1,_=>rfl
       | 2,_=>rfl
       | m+3,_=>rfl
      clear HBL HA z0 z1 z2 z3 yz
      go_upto_region 13 with (first | (go_at_call 185;refine(fT rb ro a t l H _ (by exact R5) (by omega)).mono ?_;rintro e w6 ⟨rfl,hw6⟩;rw[hw6,hf];simp only[nX]) | (go_at_call 216;refine(zP (H1 0) ns n _ (by exact hON) (by omega)).mono ?_;rintro e w7 ⟨rfl,hw7⟩;rw[hw7]))
      go_wp2_with (at_builtin;refine aM _ rfl (.tmp 56) (.tmp 58) 26 rfl i0 (.int .i64 0) 8 (H1 0) (bq ns) Tryz.underlying26 hi0 hz0 hz1 hz2 rfl Nat.one_pos rfl (by exact aR.own hA6 0) ⟨_,0,none⟩ 1 1 [.int .i64 n] rfl rfl ?e1 ?e2 Nat.one_pos ?e3 ?e4 ?_)
      case e1=>intro j u hj;match j,hj with | 0,hj=>simp at hj;subst hj;simp[Addr.add]
      case e2=>intro u hu;simp at hu;subst hu;rfl
      case e3=>simp only[bq];unfold maxLen;omega
      case e4=>simp only[bq];omega
      intro g8 cap8 w8 hw8 hgr8 hfresh8;obtain⟨k5,f5,HP⟩:=aR.app hA6 (cs':=j9 { c with names:=ns++[n] } (fI H1 0 ⟨some ⟨g8,0,none⟩,cap8⟩)) (rows':=tE { c with names:=ns++[n] }) 0 0 g8 cap8 ((bq ns).n+1) _ hw8 (kT ns n) hgr8 (by simpa using hfresh8) hrw.out (.slice (H1 0).ao ns.length (H1 0).cap) rfl (by simp[j9,fI,bq]);have T8:=(show Hid _ from(T5.still ((ab.refl [] W5).alloc (.cells #[.int .i64 n] 3))).trans HP.out.2);have F8:Hid ((w8.setCell ⟨b,0,none⟩ (.slice (some ⟨g8,0,none⟩) ((bq ns).n+1) cap8)).heap[w.heap.size]?=some (.cells aZ 165 (0,0))):=HP.out.2.1.get (((ab.refl [] W5).alloc _).get F5 (by simp)) (by rintro (e | e);omega;exact n1 e);have S8:Hid ((w8.setCell ⟨b,0,none⟩ (.slice (some ⟨g8,0,none⟩) ((bq ns).n+1) cap8)).heap[w1.heap.size]?=some (.cells TB 158 (0,0))):=HP.out.2.1.get (((ab.refl [] W5).alloc _).get S5 (by simp)) (by rintro (e | e);omega;exact n2 e);have m1:Hid (¬fk (fI H1 0 ⟨some ⟨g8,0,none⟩,cap8⟩) w.heap.size):=aw.fresh HP.out.2 _ (by have:=K5.size;simp;omega) n1;have m2:Hid (¬fk (fI H1 0 ⟨some ⟨g8,0,none⟩,cap8⟩) w1.heap.size):=aw.fresh HP.out.2 _ (by have:=K5.size;simp;omega) n2;clear hw8 hgr8 hfresh8 k0 hfr hON hA6 v0 v1 v2 v3;go_wp2
      go_roundg (l[a].proof.length-(i+1))
      case measure=>omega
      case rel=>exact⟨i+1,ns++[n],_,by omega,by omega,rfl,by go_num,by simp;omega,HF.out,HP.out.1,T8.out,F8.out,S8.out,m1.out,m2.out⟩
     ·have HF:Hid (db l a l[a].fin 1 (l[a].proof.drop 1) c.names=((0,(3,⟨pf,pl,pc⟩)),ns)):=by show _=_;rw[HBL.out,ht,hf];simp[hh]
      clear HBL
      go_upto_region 12 with (first | (go_at_call 185;refine(fT rb ro a t l H _ (by exact R5) (by omega)).mono ?_;rintro e w6 ⟨rfl,hw6⟩;rw[hw6,hf];simp only[nX]) | (go_at_call 216;refine(zP (H1 0) ns n _ (by exact hON) (by omega)).mono ?_;rintro e w7 ⟨rfl,hw7⟩;rw[hw7]))
      go_region
      all_goals go_wp2
      all_goals exact bodyPost_ret (v:=.tuple #[.int .i64 0,.agg #[.int .i64 3,.string pf,.int .i64 pl,.int .i64 pc]]) (by simp[results,Tryz.results183,go_sem,z0,z1,z2,z3]) rfl ⟨by rw[HF.out];rfl,H1,by rw[HF.out];exact(dr.still (HA.out _ _ _ _).1 (ab.refl [] _).drew),aw.still (HA.out _ _ _ _).2 (ab.refl [] _).drew⟩
   ·have HF:Hid (db l a l[a].fin 1 (l[a].proof.drop 1) c.names=((i+1,cI),ns)):=by show _=_;rw[HBL.out,ht];simp
    clear HBL;go_wp2
    exact bodyPost_ret (v:=.tuple #[.int .i64 (i+1),.agg #[.int .i64 0,.string ⟨#[]⟩,.int .i64 0,.int .i64 0]]) (by simp[results,Tryz.results183,go_sem,z0,z1,z2,z3]) rfl
     ⟨by rw[HF.out];rfl,H1,by rw[HF.out];exact(HA.out _ _ _ _).1,(HA.out _ _ _ _).2⟩
  ·have HF:Hid (db l a l[a].fin 1 (l[a].proof.drop 1) c.names=((0,(3,l[a].fin)),ns)):=hR.out.trans (Ao l a l[a].fin i l[a].proof ns hlt)
   have t3:wr.cell? ⟨w1.heap.size,3,none⟩=some (.slice AO l[a].proof.length (H (11+2*a)).cap):=by rw[aa B2,HTB.out];rfl
   have t4:wr.cell? ⟨w1.heap.size,4,none⟩=some (.string l[a].fin.file):=by rw[aa B2,HTB.out];rfl
   have t5:wr.cell? ⟨w1.heap.size,5,none⟩=some (.int .i64 l[a].fin.line):=by rw[aa B2,HTB.out];rfl
   have t6:wr.cell? ⟨w1.heap.size,6,none⟩=some (.int .i64 l[a].fin.col):=by rw[aa B2,HTB.out];rfl
   have HA:=(show Hid _ from fun a0 a1 a2 a3=>sG hC hT (F:=w.heap.size) (Nat.le_refl _) (by omega) n1 a0 a1 a2 a3);clear hR hOp
   go_upto_region 14 with fail
   go_region
   all_goals go_wp2
   all_goals exact bodyPost_ret (v:=.tuple #[.int .i64 0,.agg #[.int .i64 3,.string l[a].fin.file,.int .i64 l[a].fin.line,.int .i64 l[a].fin.col]]) (by simp[results,Tryz.results183,go_sem,z0,z1,z2,z3]) rfl ⟨by rw[HF.out];rfl,H1,by rw[HF.out];exact(dr.still (HA.out _ _ _ _).1 (ab.refl [] _).drew),aw.still (HA.out _ _ _ _).2 (ab.refl [] _).drew⟩
end Go.Proofs.YtpddjjabfbfifaaGreat
